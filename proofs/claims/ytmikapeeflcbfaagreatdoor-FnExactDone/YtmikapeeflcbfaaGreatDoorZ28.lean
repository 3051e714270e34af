import Derived.Test.YtmikapeeflcbfaaGreatDoorZ25
import Derived.Test.YtmikapeeflcbfaaGreatDoorHE
import Derived.Test.YtmikapeeflcbfaaGreatDoorZ8
import Derived.Test.YtmikapeeflcbfaaGreatDoorZ7
import Derived.Test.YtmikapeeflcbfaaGreatDoorZ13
set_option maxRecDepth 100000
set_option maxHeartbeats 16000000
namespace Go.Proofs.YtmikapeeflcbfaaGreatDoor
open Go Go.RowKit Go.Deep Go.Maps Go.BigFrame Go.Shelf Go.Proofs.Tryz
inductive Ij(lt:List Ac) (lo:List Ab) (s:Ak) (c:Int) (tx:ByteArray) (lt':List Ac) (lo':List Ab):Prop
 |form (h:s.ok=false) (hc:c=2) (ht:tx=⟨#[]⟩) (e1:lt'=lt) (e2:lo'=lo)
 |thread (h:s.ok=true) (hn:Vx lt s.th=none) (hc:c=3) (ht:tx=⟨#[]⟩) (e1:lt'=lt) (e2:lo'=lo)
 |act (h:s.ok=true) (t:Nat) (ht:t<lt.length) (hn:Vx lt s.th=some t) (p:FI lt[t] s lt lo t c tx lt' lo')
theorem Cg.form{w:World}{B n m ca co:Nat}{ta oa:Option Addr}{lt:List Ac}{lo:List Ab}(h:Cg w B (.slice ta n ca) (.slice oa m co) lt lo)(h1:0<lt.length)(h2:0<lo.length):∃g q,ta=some ⟨g,0,none⟩/\oa=some ⟨q,0,none⟩:=by
 obtain⟨rfl,rfl⟩:=h.len;obtain⟨g,_,_,e,_⟩:=Dp h.t h1;obtain⟨q,_,_,e',_⟩:=Dp h.o h2;exact⟨g,q,e,e'⟩
theorem Kp{k:Ar}(ok:BI k=true):k.small:=by
 obtain⟨h1,h2,_⟩:=Bl ok;have t:=CF h1;have o:=Cc h2;refine⟨⟨by omega,fun i hi=>?_⟩,by omega,fun i hi=>?_⟩
 ·have h:=t.2.2 i hi;unfold DK at h;simp only[Bool.and_eq_true]at h;exact(Is.1 h.1).small
 ·have h:=o.2.2.1 i hi;unfold Fi at h;simp only[Bool.and_eq_true]at h;have f:=JU.1 h.1;have it:=f.jA;unfold DG at it;simp only[Bool.and_eq_true,decide_eq_true_eq,List.all_eq_true,List.mem_range]at it;refine⟨by have:=(Bo f.l1).2;omega,by have:=Gk f.data;omega,⟨by omega,fun j hj=>?_⟩,by have:=IX f.own;omega,by have:=(Bo f.l2).2;omega⟩;have:=Gk (it.2 j hj);omega
theorem Md{k:Ar}{lt:List Ac}{lo:List Ab}{ta oa:Option Addr}{ca co:Nat}(h:k.same (DW ta ca oa co lt lo))(x:Int):Bd (fun i=>(k.T i).id) k.tn x=Vx lt x:=by
 unfold Vx;have e:lt.length=k.tn:=h.1;rw[e];exact(Im (fun i hi=>(h.2.1 i hi).1) x).symm
theorem Qu{k:Ar}{lt:List Ac}{lo:List Ab}{ta oa:Option Addr}{ca co:Nat}(h:k.same (DW ta ca oa co lt lo)):k.same (DW none 0 none 0 lt lo):=h
theorem Tc(k:Ar)(w:World)(hk:k.at w)(ok:BI k=true)(s:Ak)(hs:s.at w):
 Calls prog 19 #[.agg #[.slice k.ta k.tn k.tk,.slice k.oa k.on k.ok],.agg #[s.th,s.kind,s.id,s.to,s.cat,.string s.data,s.b1,.slice s.c1.a s.c1.n s.c1.k,s.b2,.slice s.c2.a s.c2.n s.c2.k]] w fun e w'=>∃(lt:List Ac) (lo:List Ab) (lt':List Ac) (lo':List Ab) (ta:Option Addr) (ca:Nat) (oa:Option Addr) (co:Nat) (c:Int) (tx:ByteArray),e= .returned (.tuple #[.agg #[.slice ta lt'.length ca,.slice oa lo'.length co],.int .i64 c,.string tx])/\Cg w' w (.slice ta lt'.length ca) (.slice oa lo'.length co) lt' lo'/\Below w w w'/\k.same (DW none 0 none 0 lt lo)/\Ij lt lo s c tx lt' lo':=by
 have n2:Na #[s.th,s.kind,s.id,s.to,s.cat,.string s.data,s.b1,.slice s.c1.a s.c1.n s.c1.k,s.b2,.slice s.c2.a s.c2.n s.c2.k]:=⟨⟩;have n4:No (.cells #[.slice k.ta k.tn k.tk,.slice k.oa k.on k.ok] 36):=⟨⟩;have n5:No (.cells #[.slice none 0 0,.slice none 0 0] 36):=⟨⟩;have n1:Nw (((w.alloc n4).alloc (.cells n2 44)).alloc n5):=⟨⟩;have b0:Below w w n1:=(((Below.refl _ w).alloc (Nat.le_refl _) _).alloc (by simp) _).alloc (by simp;omega) _;have A0:Ah n1 w n4:=((Ah.new w _).alloc _).alloc _;have P0:Ah n1 (w.heap.size+1) (.cells n2 44):=by have:=(Ah.new (w.alloc n4) (.cells n2 44)).alloc n5;simpa using this
 have R0:Ah n1 (w.heap.size+1+1) n5:=by have:=Ah.new ((w.alloc n4).alloc (.cells n2 44)) n5;simpa using this
 have HK:=hid hk;have OK:=hid ok;have SA:=hid hs;have HB:=hid b0;have HA:=hid A0;have HP:=hid P0;have HR:=hid R0;have sm:=Kp ok;have SMA:=hid sm;clear b0 A0 P0 R0 hk ok hs sm;go_enter func19,ntmps19
 obtain⟨x0,x1⟩:=HA.out.two;obtain⟨s0,s1,s2,s3,s4,s5,s6,s7,s8,s9⟩:=HP.out.jE;go_wp2_with fail
 have BX:Hid (∀W,Below (n1:World).heap.size n1 W->Ah W w n4/\Ah W (w.heap.size+1) (.cells n2 44)/\Ah W (w.heap.size+1+1) n5):=hid (fun W hW=>⟨HA.out.below hW,HP.out.below hW,HR.out.below hW⟩);have LW:Hid (∀W,Below (n1:World).heap.size n1 W->Below w w W):=hid (fun W hW=>Ae HB hW);have V0:=hid (Below.refl (n1:World).heap.size n1);have S0:=hid HB.out.size;clear x0 x1 s0 s1 s2 s3 s4 s5 s6 s7 s8 s9 HA HP HR HB;generalize (n1:World)=V at *;refine(Tf k V (HK.out.below (LW _ V0)) SMA).mono ?_;rintro e w1 ⟨lt,lo,ta,oa,ca,co,rfl,ks,sm,hb1⟩;have V1:=hid (Ae V0 hb1);have SM:=hid (Qu sm);have OKL:Hid (okL lt lo=true):=hid ((Ds sm).trans OK);have TS:Hid (Bd (fun i=>(k.T i).id) k.tn s.th=Vx lt s.th):=hid (Md sm s.th);obtain⟨g,q,rfl,rfl⟩:=ks.form (by have:=MA OKL.out;omega) (by have:=GM OKL.out;omega);have KS1:=hid ks;clear hb1 sm ks V0;have n3:No (.cells #[.slice (some ⟨g,0,none⟩) lt.length ca,.slice (some ⟨q,0,none⟩) lo.length co] 36):=⟨⟩;have V2:=hid (V1.out.alloc V1.out.size n3);have O2:=hid (Ah.new w1 n3);have KS2:=hid (KS1.out.below ((Below.refl _ w1).alloc (Nat.le_refl _) n3));clear KS1;obtain⟨x0,x1⟩:=(BX _ V2).1.two;obtain⟨s0,s1,s2,s3,s4,s5,s6,s7,s8,s9⟩:=(BX _ V2).2.1.jE;obtain⟨r0,r1⟩:=(BX _ V2).2.2.two;have rf:=(BX _ V2).2.2.jC;go_wp2_with fail
 clear x0 x1 s0 s1 s2 s3 s4 s5 s6 s7 s8 s9 r0 r1 rf;clear V1;generalize w1.alloc n3=W2 at *;generalize w1.heap.size=O at *;have SS:Hid (Calls prog 44 #[.agg n2] W2 fun e w'=>e= .returned (.bool s.ok)/\Below W2 W2 w'):=hid (by
  have h:=SA.out.below (LW _ V2);exact QT s.th s.kind s.id s.to s.cat s.data s.b1 s.c1.a s.c1.n s.c1.k s.c1.f s.c1.g s.b2 s.c2.a s.c2.n s.c2.k s.c2.f s.c2.g W2 h.2.2 h.1.1 h.2.1.1 h.1.2 h.2.1.2)
 refine SS.out.mono ?_;rintro e w3 ⟨rfl,hb3⟩;have V3:=hid (Ae V2 hb3);have KS3:=hid (KS2.out.below hb3);have O3:=hid (O2.out.below hb3);clear hb3 SS V2 O2 KS2;have L3:=hid (LW.out _ V3);obtain⟨x0,x1⟩:=(BX _ V3).1.two;obtain⟨s0,s1,s2,s3,s4,s5,s6,s7,s8,s9⟩:=(BX _ V3).2.1.jE;obtain⟨r0,r1⟩:=(BX _ V3).2.2.two;have rf:=(BX _ V3).2.2.jC;obtain⟨u0,u1⟩:=O3.out.two;cases so:s.ok with
 |false=>
  have SO:=hid so;go_wp2;have RB:=hid (BX.out _ V3).2.2;refine bodyPost_ret (Ai _ _ (w.heap.size+1+1) 4 _ _ _ _ Tryz.results19 ((RB.out.jB (i:=0) _).jB (i:=1) _) rfl rfl rfl) rfl ⟨lt,lo,lt,lo,(some ⟨g,0,none⟩),ca,(some ⟨q,0,none⟩),co,2,_,rfl,?_,?_,SM,.form SO rfl rfl rfl rfl⟩
  ·exact((KS3.out.base S0).set RB (.inl rfl) _).set (RB.out.jB (i:=0) _) (.inl rfl) _
  ·exact(L3.out.setCell (by dsimp only;omega) _).setCell (by dsimp only;omega) _
 |true=>
  have SO:=hid so;clear so;go_wp2_with fail
  refine(JI k s.th w3 (HK.out.below L3)).mono ?_;rintro e w4 ⟨rfl,hb4⟩;rw[TS.out];have V4:=hid (Ae V3 hb4);have KS4:=hid (KS3.out.below hb4);have O4:=hid (O3.out.below hb4);clear hb4 V3 KS3 O3 x0 x1 s0 s1 s2 s3 s4 s5 s6 s7 s8 s9 r0 r1 rf u0 u1 L3;have L3:=hid (LW.out _ V4);obtain⟨x0,x1⟩:=(BX _ V4).1.two;obtain⟨s0,s1,s2,s3,s4,s5,s6,s7,s8,s9⟩:=(BX _ V4).2.1.jE;obtain⟨r0,r1⟩:=(BX _ V4).2.2.two;have rf:=(BX _ V4).2.2.jC;obtain⟨u0,u1⟩:=O4.out.two;cases hn:Vx lt s.th with
  |none=>
   have HN:=hid hn;simp only[Gf];have j0:decide (((-1:Int))<0)=true:=rfl;go_wp2;have RB:=hid (BX.out _ V4).2.2;refine bodyPost_ret (Ai _ _ (w.heap.size+1+1) 4 _ _ _ _ Tryz.results19 ((RB.out.jB (i:=0) _).jB (i:=1) _) rfl rfl rfl) rfl ⟨lt,lo,lt,lo,(some ⟨g,0,none⟩),ca,(some ⟨q,0,none⟩),co,3,_,rfl,?_,?_,SM,.thread SO HN rfl rfl rfl rfl⟩
   ·exact((KS4.out.base S0).set RB (.inl rfl) _).set (RB.out.jB (i:=0) _) (.inl rfl) _
   ·exact(L3.out.setCell (by dsimp only;omega) _).setCell (by dsimp only;omega) _
  |some t=>
   have HT:=hid hn;have ht:t<lt.length:=(AE hn).1;clear hn;simp only[Gf];have j0:decide (((t:Nat):Int)<0)=false:=decide_eq_false (by omega);have j1:¬((t:Nat):Int)<0:=(by omega);obtain⟨w3,e3⟩:∃W,W=w4:=⟨_,rfl⟩;subst e3;have KS3:=KS4;clear KS4;have SZ3:Hid (V.heap.size<=w3.heap.size):=hid V4.out.size;have SA3:Hid (∀W,Below V w3 W->s.at W):=hid (fun W hW=>SA.out.below (L3.out.trans (hW.mono S0)));have RR:Hid (∀W,Below V w3 W->Ah W (w.heap.size+1+1) (.cells #[.slice none 0 0,.slice none 0 0] 36)):=hid (fun W hW=>(BX _ (V4.out.trans hW)).2.2);have sk:=(Gl SO).kind;have cs:(s.kind=1∨s.kind=12∨s.kind=14)∨(s.kind=2∨s.kind=3∨s.kind=4∨s.kind=5)∨s.kind=11∨(s.kind=6∨s.kind=7∨s.kind=8∨s.kind=9∨s.kind=10∨s.kind=13∨s.kind=15):=(by omega);have KIND:=hid cs;clear sk cs;rcases KIND with hk|hk|hk|hk
   ·have HKD:=hid hk;rcases hk with hk|hk|hk
    ·skip;have k1:(s.kind==1)=true:=(by rw[hk];rfl);have d1:decide (s.kind=1)=true:=(by rw[hk];rfl);have k12:(s.kind==12)=false:=(by rw[hk];rfl);have d12:decide (s.kind=12)=false:=(by rw[hk];rfl);have k14:(s.kind==14)=false:=(by rw[hk];rfl);have d14:decide (s.kind=14)=false:=(by rw[hk];rfl);have k2:(s.kind==2)=false:=(by rw[hk];rfl);have d2:decide (s.kind=2)=false:=(by rw[hk];rfl);have k3:(s.kind==3)=false:=(by rw[hk];rfl);have d3:decide (s.kind=3)=false:=(by rw[hk];rfl);have k4:(s.kind==4)=false:=(by rw[hk];rfl);have d4:decide (s.kind=4)=false:=(by rw[hk];rfl);have k5:(s.kind==5)=false:=(by rw[hk];rfl);have d5:decide (s.kind=5)=false:=(by rw[hk];rfl);have k11:(s.kind==11)=false:=(by rw[hk];rfl);have d11:decide (s.kind=11)=false:=(by rw[hk];rfl);clear hk;have AC:=hid (Nj lt lo g ca q co V w3 KS3 SZ3 OKL t ht s SA3 SO HKD);go_wp2_with fail
     refine AC.out.mono ?_;rintro e w5 ⟨lt',lo',ta,ca',oa,co',c,tx,rfl,k5,b5,p5⟩;have K5:=hid k5;have B5:=hid b5;have P5:=hid p5;clear k5 b5 p5 AC x0 x1 s0 s1 s2 s3 s4 s5 s6 s7 s8 s9 r0 r1 rf u0 u1;have RB:=hid (RR.out _ B5);have L5:=hid (L3.out.trans (B5.out.mono S0));obtain⟨r0,r1⟩:=RB.out.two;have rf:=RB.out.jC;go_wp2;refine bodyPost_ret (Ai _ _ (w.heap.size+1+1) 4 _ _ _ _ Tryz.results19 ((RB.out.jB (i:=0) _).jB (i:=1) _) rfl rfl rfl) rfl ⟨lt,lo,lt',lo',ta,ca',oa,co',c,tx,rfl,?_,?_,SM,.act SO t ht HT P5⟩
     ·exact((K5.out.base S0).set RB (.inl rfl) _).set (RB.out.jB (i:=0) _) (.inl rfl) _
     ·exact(L5.out.setCell (by dsimp only;omega) _).setCell (by dsimp only;omega) _
    ·skip;have k1:(s.kind==1)=false:=(by rw[hk];rfl);have d1:decide (s.kind=1)=false:=(by rw[hk];rfl);have k12:(s.kind==12)=true:=(by rw[hk];rfl);have d12:decide (s.kind=12)=true:=(by rw[hk];rfl);have k14:(s.kind==14)=false:=(by rw[hk];rfl);have d14:decide (s.kind=14)=false:=(by rw[hk];rfl);have k2:(s.kind==2)=false:=(by rw[hk];rfl);have d2:decide (s.kind=2)=false:=(by rw[hk];rfl);have k3:(s.kind==3)=false:=(by rw[hk];rfl);have d3:decide (s.kind=3)=false:=(by rw[hk];rfl);have k4:(s.kind==4)=false:=(by rw[hk];rfl);have d4:decide (s.kind=4)=false:=(by rw[hk];rfl);have k5:(s.kind==5)=false:=(by rw[hk];rfl);have d5:decide (s.kind=5)=false:=(by rw[hk];rfl);have k11:(s.kind==11)=false:=(by rw[hk];rfl);have d11:decide (s.kind=11)=false:=(by rw[hk];rfl);clear hk;have AC:=hid (Nj lt lo g ca q co V w3 KS3 SZ3 OKL t ht s SA3 SO HKD);go_wp2_with fail
     refine AC.out.mono ?_;rintro e w5 ⟨lt',lo',ta,ca',oa,co',c,tx,rfl,k5,b5,p5⟩;have K5:=hid k5;have B5:=hid b5;have P5:=hid p5;clear k5 b5 p5 AC x0 x1 s0 s1 s2 s3 s4 s5 s6 s7 s8 s9 r0 r1 rf u0 u1;have RB:=hid (RR.out _ B5);have L5:=hid (L3.out.trans (B5.out.mono S0));obtain⟨r0,r1⟩:=RB.out.two;have rf:=RB.out.jC;go_wp2;refine bodyPost_ret (Ai _ _ (w.heap.size+1+1) 4 _ _ _ _ Tryz.results19 ((RB.out.jB (i:=0) _).jB (i:=1) _) rfl rfl rfl) rfl ⟨lt,lo,lt',lo',ta,ca',oa,co',c,tx,rfl,?_,?_,SM,.act SO t ht HT P5⟩
     ·exact((K5.out.base S0).set RB (.inl rfl) _).set (RB.out.jB (i:=0) _) (.inl rfl) _
     ·exact(L5.out.setCell (by dsimp only;omega) _).setCell (by dsimp only;omega) _
    ·skip;have k1:(s.kind==1)=false:=(by rw[hk];rfl);have d1:decide (s.kind=1)=false:=(by rw[hk];rfl);have k12:(s.kind==12)=false:=(by rw[hk];rfl);have d12:decide (s.kind=12)=false:=(by rw[hk];rfl);have k14:(s.kind==14)=true:=(by rw[hk];rfl);have d14:decide (s.kind=14)=true:=(by rw[hk];rfl);have k2:(s.kind==2)=false:=(by rw[hk];rfl);have d2:decide (s.kind=2)=false:=(by rw[hk];rfl);have k3:(s.kind==3)=false:=(by rw[hk];rfl);have d3:decide (s.kind=3)=false:=(by rw[hk];rfl);have k4:(s.kind==4)=false:=(by rw[hk];rfl);have d4:decide (s.kind=4)=false:=(by rw[hk];rfl);have k5:(s.kind==5)=false:=(by rw[hk];rfl);have d5:decide (s.kind=5)=false:=(by rw[hk];rfl);have k11:(s.kind==11)=false:=(by rw[hk];rfl);have d11:decide (s.kind=11)=false:=(by rw[hk];rfl);clear hk;have AC:=hid (Nj lt lo g ca q co V w3 KS3 SZ3 OKL t ht s SA3 SO HKD);go_wp2_with fail
     refine AC.out.mono ?_;rintro e w5 ⟨lt',lo',ta,ca',oa,co',c,tx,rfl,k5,b5,p5⟩;have K5:=hid k5;have B5:=hid b5;have P5:=hid p5;clear k5 b5 p5 AC x0 x1 s0 s1 s2 s3 s4 s5 s6 s7 s8 s9 r0 r1 rf u0 u1;have RB:=hid (RR.out _ B5);have L5:=hid (L3.out.trans (B5.out.mono S0));obtain⟨r0,r1⟩:=RB.out.two;have rf:=RB.out.jC;go_wp2;refine bodyPost_ret (Ai _ _ (w.heap.size+1+1) 4 _ _ _ _ Tryz.results19 ((RB.out.jB (i:=0) _).jB (i:=1) _) rfl rfl rfl) rfl ⟨lt,lo,lt',lo',ta,ca',oa,co',c,tx,rfl,?_,?_,SM,.act SO t ht HT P5⟩
     ·exact((K5.out.base S0).set RB (.inl rfl) _).set (RB.out.jB (i:=0) _) (.inl rfl) _
     ·exact(L5.out.setCell (by dsimp only;omega) _).setCell (by dsimp only;omega) _
   ·have HKD:=hid hk;rcases hk with hk|hk|hk|hk
    ·skip;have k1:(s.kind==1)=false:=(by rw[hk];rfl);have d1:decide (s.kind=1)=false:=(by rw[hk];rfl);have k12:(s.kind==12)=false:=(by rw[hk];rfl);have d12:decide (s.kind=12)=false:=(by rw[hk];rfl);have k14:(s.kind==14)=false:=(by rw[hk];rfl);have d14:decide (s.kind=14)=false:=(by rw[hk];rfl);have k2:(s.kind==2)=true:=(by rw[hk];rfl);have d2:decide (s.kind=2)=true:=(by rw[hk];rfl);have k3:(s.kind==3)=false:=(by rw[hk];rfl);have d3:decide (s.kind=3)=false:=(by rw[hk];rfl);have k4:(s.kind==4)=false:=(by rw[hk];rfl);have d4:decide (s.kind=4)=false:=(by rw[hk];rfl);have k5:(s.kind==5)=false:=(by rw[hk];rfl);have d5:decide (s.kind=5)=false:=(by rw[hk];rfl);have k11:(s.kind==11)=false:=(by rw[hk];rfl);have d11:decide (s.kind=11)=false:=(by rw[hk];rfl);clear hk;have AC:=hid (JX lt lo g ca q co V w3 KS3 SZ3 OKL t ht s SA3 SO HKD);go_wp2_with fail
     refine AC.out.mono ?_;rintro e w5 ⟨lt',lo',ta,ca',oa,co',c,tx,rfl,k5,b5,p5⟩;have K5:=hid k5;have B5:=hid b5;have P5:=hid p5;clear k5 b5 p5 AC x0 x1 s0 s1 s2 s3 s4 s5 s6 s7 s8 s9 r0 r1 rf u0 u1;have RB:=hid (RR.out _ B5);have L5:=hid (L3.out.trans (B5.out.mono S0));obtain⟨r0,r1⟩:=RB.out.two;have rf:=RB.out.jC;go_wp2;refine bodyPost_ret (Ai _ _ (w.heap.size+1+1) 4 _ _ _ _ Tryz.results19 ((RB.out.jB (i:=0) _).jB (i:=1) _) rfl rfl rfl) rfl ⟨lt,lo,lt',lo',ta,ca',oa,co',c,tx,rfl,?_,?_,SM,.act SO t ht HT P5⟩
     ·exact((K5.out.base S0).set RB (.inl rfl) _).set (RB.out.jB (i:=0) _) (.inl rfl) _
     ·exact(L5.out.setCell (by dsimp only;omega) _).setCell (by dsimp only;omega) _
    ·skip;have k1:(s.kind==1)=false:=(by rw[hk];rfl);have d1:decide (s.kind=1)=false:=(by rw[hk];rfl);have k12:(s.kind==12)=false:=(by rw[hk];rfl);have d12:decide (s.kind=12)=false:=(by rw[hk];rfl);have k14:(s.kind==14)=false:=(by rw[hk];rfl);have d14:decide (s.kind=14)=false:=(by rw[hk];rfl);have k2:(s.kind==2)=false:=(by rw[hk];rfl);have d2:decide (s.kind=2)=false:=(by rw[hk];rfl);have k3:(s.kind==3)=true:=(by rw[hk];rfl);have d3:decide (s.kind=3)=true:=(by rw[hk];rfl);have k4:(s.kind==4)=false:=(by rw[hk];rfl);have d4:decide (s.kind=4)=false:=(by rw[hk];rfl);have k5:(s.kind==5)=false:=(by rw[hk];rfl);have d5:decide (s.kind=5)=false:=(by rw[hk];rfl);have k11:(s.kind==11)=false:=(by rw[hk];rfl);have d11:decide (s.kind=11)=false:=(by rw[hk];rfl);clear hk;have AC:=hid (JX lt lo g ca q co V w3 KS3 SZ3 OKL t ht s SA3 SO HKD);go_wp2_with fail
     refine AC.out.mono ?_;rintro e w5 ⟨lt',lo',ta,ca',oa,co',c,tx,rfl,k5,b5,p5⟩;have K5:=hid k5;have B5:=hid b5;have P5:=hid p5;clear k5 b5 p5 AC x0 x1 s0 s1 s2 s3 s4 s5 s6 s7 s8 s9 r0 r1 rf u0 u1;have RB:=hid (RR.out _ B5);have L5:=hid (L3.out.trans (B5.out.mono S0));obtain⟨r0,r1⟩:=RB.out.two;have rf:=RB.out.jC;go_wp2;refine bodyPost_ret (Ai _ _ (w.heap.size+1+1) 4 _ _ _ _ Tryz.results19 ((RB.out.jB (i:=0) _).jB (i:=1) _) rfl rfl rfl) rfl ⟨lt,lo,lt',lo',ta,ca',oa,co',c,tx,rfl,?_,?_,SM,.act SO t ht HT P5⟩
     ·exact((K5.out.base S0).set RB (.inl rfl) _).set (RB.out.jB (i:=0) _) (.inl rfl) _
     ·exact(L5.out.setCell (by dsimp only;omega) _).setCell (by dsimp only;omega) _
    ·skip;have k1:(s.kind==1)=false:=(by rw[hk];rfl);have d1:decide (s.kind=1)=false:=(by rw[hk];rfl);have k12:(s.kind==12)=false:=(by rw[hk];rfl);have d12:decide (s.kind=12)=false:=(by rw[hk];rfl);have k14:(s.kind==14)=false:=(by rw[hk];rfl);have d14:decide (s.kind=14)=false:=(by rw[hk];rfl);have k2:(s.kind==2)=false:=(by rw[hk];rfl);have d2:decide (s.kind=2)=false:=(by rw[hk];rfl);have k3:(s.kind==3)=false:=(by rw[hk];rfl);have d3:decide (s.kind=3)=false:=(by rw[hk];rfl);have k4:(s.kind==4)=true:=(by rw[hk];rfl);have d4:decide (s.kind=4)=true:=(by rw[hk];rfl);have k5:(s.kind==5)=false:=(by rw[hk];rfl);have d5:decide (s.kind=5)=false:=(by rw[hk];rfl);have k11:(s.kind==11)=false:=(by rw[hk];rfl);have d11:decide (s.kind=11)=false:=(by rw[hk];rfl);clear hk;have AC:=hid (JX lt lo g ca q co V w3 KS3 SZ3 OKL t ht s SA3 SO HKD);go_wp2_with fail
     refine AC.out.mono ?_;rintro e w5 ⟨lt',lo',ta,ca',oa,co',c,tx,rfl,k5,b5,p5⟩;have K5:=hid k5;have B5:=hid b5;have P5:=hid p5;clear k5 b5 p5 AC x0 x1 s0 s1 s2 s3 s4 s5 s6 s7 s8 s9 r0 r1 rf u0 u1;have RB:=hid (RR.out _ B5);have L5:=hid (L3.out.trans (B5.out.mono S0));obtain⟨r0,r1⟩:=RB.out.two;have rf:=RB.out.jC;go_wp2;refine bodyPost_ret (Ai _ _ (w.heap.size+1+1) 4 _ _ _ _ Tryz.results19 ((RB.out.jB (i:=0) _).jB (i:=1) _) rfl rfl rfl) rfl ⟨lt,lo,lt',lo',ta,ca',oa,co',c,tx,rfl,?_,?_,SM,.act SO t ht HT P5⟩
     ·exact((K5.out.base S0).set RB (.inl rfl) _).set (RB.out.jB (i:=0) _) (.inl rfl) _
     ·exact(L5.out.setCell (by dsimp only;omega) _).setCell (by dsimp only;omega) _
    ·skip;have k1:(s.kind==1)=false:=(by rw[hk];rfl);have d1:decide (s.kind=1)=false:=(by rw[hk];rfl);have k12:(s.kind==12)=false:=(by rw[hk];rfl);have d12:decide (s.kind=12)=false:=(by rw[hk];rfl);have k14:(s.kind==14)=false:=(by rw[hk];rfl);have d14:decide (s.kind=14)=false:=(by rw[hk];rfl);have k2:(s.kind==2)=false:=(by rw[hk];rfl);have d2:decide (s.kind=2)=false:=(by rw[hk];rfl);have k3:(s.kind==3)=false:=(by rw[hk];rfl);have d3:decide (s.kind=3)=false:=(by rw[hk];rfl);have k4:(s.kind==4)=false:=(by rw[hk];rfl);have d4:decide (s.kind=4)=false:=(by rw[hk];rfl);have k5:(s.kind==5)=true:=(by rw[hk];rfl);have d5:decide (s.kind=5)=true:=(by rw[hk];rfl);have k11:(s.kind==11)=false:=(by rw[hk];rfl);have d11:decide (s.kind=11)=false:=(by rw[hk];rfl);clear hk;have AC:=hid (JX lt lo g ca q co V w3 KS3 SZ3 OKL t ht s SA3 SO HKD);go_wp2_with fail
     refine AC.out.mono ?_;rintro e w5 ⟨lt',lo',ta,ca',oa,co',c,tx,rfl,k5,b5,p5⟩;have K5:=hid k5;have B5:=hid b5;have P5:=hid p5;clear k5 b5 p5 AC x0 x1 s0 s1 s2 s3 s4 s5 s6 s7 s8 s9 r0 r1 rf u0 u1;have RB:=hid (RR.out _ B5);have L5:=hid (L3.out.trans (B5.out.mono S0));obtain⟨r0,r1⟩:=RB.out.two;have rf:=RB.out.jC;go_wp2;refine bodyPost_ret (Ai _ _ (w.heap.size+1+1) 4 _ _ _ _ Tryz.results19 ((RB.out.jB (i:=0) _).jB (i:=1) _) rfl rfl rfl) rfl ⟨lt,lo,lt',lo',ta,ca',oa,co',c,tx,rfl,?_,?_,SM,.act SO t ht HT P5⟩
     ·exact((K5.out.base S0).set RB (.inl rfl) _).set (RB.out.jB (i:=0) _) (.inl rfl) _
     ·exact(L5.out.setCell (by dsimp only;omega) _).setCell (by dsimp only;omega) _
   ·have HKD:=hid hk;have k1:(s.kind==1)=false:=(by rw[hk];rfl);have d1:decide (s.kind=1)=false:=(by rw[hk];rfl);have k12:(s.kind==12)=false:=(by rw[hk];rfl);have d12:decide (s.kind=12)=false:=(by rw[hk];rfl);have k14:(s.kind==14)=false:=(by rw[hk];rfl);have d14:decide (s.kind=14)=false:=(by rw[hk];rfl);have k2:(s.kind==2)=false:=(by rw[hk];rfl);have d2:decide (s.kind=2)=false:=(by rw[hk];rfl);have k3:(s.kind==3)=false:=(by rw[hk];rfl);have d3:decide (s.kind=3)=false:=(by rw[hk];rfl);have k4:(s.kind==4)=false:=(by rw[hk];rfl);have d4:decide (s.kind=4)=false:=(by rw[hk];rfl);have k5:(s.kind==5)=false:=(by rw[hk];rfl);have d5:decide (s.kind=5)=false:=(by rw[hk];rfl);have k11:(s.kind==11)=true:=(by rw[hk];rfl);have d11:decide (s.kind=11)=true:=(by rw[hk];rfl);clear hk;have AC:=hid (XC lt lo g ca q co V w3 KS3 SZ3 OKL t ht s SA3 SO HKD);go_wp2_with fail
    refine AC.out.mono ?_;rintro e w5 ⟨lt',lo',ta,ca',oa,co',c,tx,rfl,k5,b5,p5⟩;have K5:=hid k5;have B5:=hid b5;have P5:=hid p5;clear k5 b5 p5 AC x0 x1 s0 s1 s2 s3 s4 s5 s6 s7 s8 s9 r0 r1 rf u0 u1;have RB:=hid (RR.out _ B5);have L5:=hid (L3.out.trans (B5.out.mono S0));obtain⟨r0,r1⟩:=RB.out.two;have rf:=RB.out.jC;go_wp2;refine bodyPost_ret (Ai _ _ (w.heap.size+1+1) 4 _ _ _ _ Tryz.results19 ((RB.out.jB (i:=0) _).jB (i:=1) _) rfl rfl rfl) rfl ⟨lt,lo,lt',lo',ta,ca',oa,co',c,tx,rfl,?_,?_,SM,.act SO t ht HT P5⟩
    ·exact((K5.out.base S0).set RB (.inl rfl) _).set (RB.out.jB (i:=0) _) (.inl rfl) _
    ·exact(L5.out.setCell (by dsimp only;omega) _).setCell (by dsimp only;omega) _
   ·have HKD:=hid hk;have k1:(s.kind==1)=false:=(by simp only[beq_eq_false_iff_ne,ne_eq];omega);have d1:decide (s.kind=1)=false:=decide_eq_false (by omega);have k12:(s.kind==12)=false:=(by simp only[beq_eq_false_iff_ne,ne_eq];omega);have d12:decide (s.kind=12)=false:=decide_eq_false (by omega);have k14:(s.kind==14)=false:=(by simp only[beq_eq_false_iff_ne,ne_eq];omega);have d14:decide (s.kind=14)=false:=decide_eq_false (by omega);have k2:(s.kind==2)=false:=(by simp only[beq_eq_false_iff_ne,ne_eq];omega);have d2:decide (s.kind=2)=false:=decide_eq_false (by omega);have k3:(s.kind==3)=false:=(by simp only[beq_eq_false_iff_ne,ne_eq];omega);have d3:decide (s.kind=3)=false:=decide_eq_false (by omega);have k4:(s.kind==4)=false:=(by simp only[beq_eq_false_iff_ne,ne_eq];omega);have d4:decide (s.kind=4)=false:=decide_eq_false (by omega);have k5:(s.kind==5)=false:=(by simp only[beq_eq_false_iff_ne,ne_eq];omega);have d5:decide (s.kind=5)=false:=decide_eq_false (by omega);have k11:(s.kind==11)=false:=(by simp only[beq_eq_false_iff_ne,ne_eq];omega);have d11:decide (s.kind=11)=false:=decide_eq_false (by omega);clear hk;have AC:=hid (YD lt lo g ca q co V w3 KS3 SZ3 OKL t ht s SA3 SO HKD);go_wp2_with fail
    refine AC.out.mono ?_;rintro e w5 ⟨lt',lo',ta,ca',oa,co',c,tx,rfl,k5,b5,p5⟩;have K5:=hid k5;have B5:=hid b5;have P5:=hid p5;clear k5 b5 p5 AC x0 x1 s0 s1 s2 s3 s4 s5 s6 s7 s8 s9 r0 r1 rf u0 u1;have RB:=hid (RR.out _ B5);have L5:=hid (L3.out.trans (B5.out.mono S0));obtain⟨r0,r1⟩:=RB.out.two;have rf:=RB.out.jC;go_wp2;refine bodyPost_ret (Ai _ _ (w.heap.size+1+1) 4 _ _ _ _ Tryz.results19 ((RB.out.jB (i:=0) _).jB (i:=1) _) rfl rfl rfl) rfl ⟨lt,lo,lt',lo',ta,ca',oa,co',c,tx,rfl,?_,?_,SM,.act SO t ht HT P5⟩
    ·exact((K5.out.base S0).set RB (.inl rfl) _).set (RB.out.jB (i:=0) _) (.inl rfl) _
    ·exact(L5.out.setCell (by dsimp only;omega) _).setCell (by dsimp only;omega) _
theorem Ab.same.refl(t:Ab):t.same t:=⟨rfl,rfl,rfl,rfl,⟨rfl,rfl,rfl⟩,rfl,⟨rfl,rfl⟩,⟨rfl,rfl⟩,rfl,⟨rfl,rfl,rfl⟩⟩
theorem Ab.new.below{B:Nat}{w w':World}{t:Ab}(h:t.new B w)(hb:Below w w w'):t.new B w':=⟨h.1.below hb,h.2.1.below hb,h.2.2.1.below hb,h.2.2.2.below hb⟩
theorem QY{n:Nat}{h:Nat->Int}:((List.range n).map h).Pairwise (· <·)↔∀i j,i<j->j<n->h i<h j:=by
 rw[List.pairwise_iff_getElem];constructor
 ·intro H i j hij hj;have:=H i j (by simp;omega) (by simp;omega) hij;simpa using this
 ·intro H i j hi hj hij;simp at hi hj;simpa using H i j hij hj
theorem Gd{n:Nat}{h:Nat->Int}:BK n h=true↔n<=10/\((List.range n).map h).Pairwise (· <·)/\∀x∈(List.range n).map h,1<=x/\x<=9999:=by
 unfold BK;simp only[Bool.and_eq_true,decide_eq_true_eq,List.all_eq_true,List.mem_range];constructor
 ·rintro⟨h1,h2⟩;refine⟨h1,?_,?_⟩
  ·rw[QY];refine Ka (fun i i0 hi=>?_);have:=h2 i hi;unfold Dl at this;simp only[Bool.and_eq_true,Bool.or_eq_true,decide_eq_true_eq,beq_iff_eq]at this;rcases this.2 with e|e
   ·omega
   ·exact e
  ·intro x hx;obtain⟨i,hi,rfl⟩:=List.mem_map.1 hx;have:=h2 i (List.mem_range.1 hi);unfold Dl at this;simp only[Bool.and_eq_true,DL]at this;exact this.1
 ·rintro⟨h1,h2,h3⟩;refine⟨h1,fun i hi=>?_⟩;rw[QY]at h2;unfold Dl;simp only[Bool.and_eq_true,Bool.or_eq_true,decide_eq_true_eq,beq_iff_eq,DL];refine⟨h3 _ (List.mem_map.2 ⟨i,List.mem_range.2 hi,rfl⟩),?_⟩;by_cases e:i=0
  ·exact .inl e
  ·exact .inr (h2 (i-1) i (by omega) hi)
theorem MC{L:List Int}(h1:L.length<=10)(h2:L.Pairwise (· <·))(h3:∀x∈L,1<=x/\x<=9999):BK L.length (AL L)=true:=by
 rw[Gd,Pp];exact⟨h1,h2,h3⟩
theorem Hc(t:Ac):t.same t:=⟨rfl,rfl,⟨rfl,rfl,rfl⟩,rfl,⟨rfl,rfl,rfl⟩,⟨rfl,rfl⟩,rfl⟩
theorem Un{α:Type}{l:List α}{t j:Nat}{x z:α}(hj:j<l.length):(l.set t x).getD j z=if j=t then x else l.getD j z:=by
 rw[List.getD_eq_getElem?_getD,List.getD_eq_getElem?_getD,List.getElem?_set];by_cases e:t=j
 ·subst e;simp[hj]
 ·have e':¬j=t:=fun h=>e h.symm;simp[e,e']
section
variable {lt:List Ac}{lo:List Ab} (ok:okL lt lo=true)
include ok
theorem It{t:Nat}(ht:t<lt.length){x:Ac}(hx:Mb x)(hi:x.id=lt[t].id)(hm:lt[t].made<=x.made):okL (lt.set t x) lo=true:=by
 have e:(DW none 0 none 0 lt lo).T t=lt[t]:=Ep ht;have k:=(BF.1 ok).setT (t:=t) (Is.2 hx) (by rw[e];exact hi) (by rw[e];exact hm);have h:=BF.2 k;refine(Ds ?_).trans h;refine⟨by simp[DW,Ar.setT],fun j hj=>?_,rfl,fun j hj=>Ab.same.refl _⟩;have hj':j<lt.length:=hj;have e2:(DW none 0 none 0 (lt.set t x) lo).T j=((DW none 0 none 0 lt lo).setT t x).T j:=Un hj';rw[e2];exact Hc _
theorem Jt{u:Nat}(hu:u<lo.length){x:Ab}(hx:Ml x)(h1:x.id=lo[u].id)(h2:x.kind=lo[u].kind)(h3:x.up=lo[u].up):okL lt (lo.set u x)=true:=by
 have e:(DW none 0 none 0 lt lo).O u=lo[u]:=AM hu;have k:=(BF.1 ok).setO (i:=u) (JU.2 hx) (by rw[e];exact h1) (by rw[e];exact h2) (by rw[e];exact h3);have h:=BF.2 k;refine(Ds ?_).trans h;refine⟨rfl,fun j hj=>Hc _,by simp[DW,Ar.setO],fun j hj=>?_⟩;have hj':j<lo.length:=hj;have e2:(DW none 0 none 0 lt (lo.set u x)).O j=((DW none 0 none 0 lt lo).setO u x).O j:=Un hj';rw[e2];exact Ab.same.refl _
theorem Gv:Aa lo 0=Aa lo 0/\(Aa lo 0).id=1/\(Aa lo 0).up=0:=by
 have r:=(BF.1 ok).root;unfold E7 at r;simp only[Bool.and_eq_true,beq_iff_eq]at r;exact⟨rfl,r.1.1,r.2⟩
theorem YQ{j:Nat}(hj:j<lo.length):1<=(Aa lo j).id:=by
 have r:=(Gv ok).2.1;by_cases e:j=0
 ·subst e;omega
 ·have h:=(BF.1 ok).rise 0 j (by omega) hj;have h':(Aa lo 0).id<(Aa lo j).id:=h;omega
end
theorem Jh(x:Ab):∀lo:List Ab,∃p,p<=lo.length/\Be x lo=lo.take p++x::lo.drop p/\(∀j,j<p->¬x.id<(Aa lo j).id)/\(p<lo.length->x.id<(Aa lo p).id)
 |[]=>⟨0,Nat.le_refl _,rfl,fun j hj=>absurd hj (Nat.not_lt_zero j),fun h=>absurd h (Nat.not_lt_zero 0)⟩
 |y::r=>by
  by_cases h:x.id<y.id
  ·refine⟨0,Nat.zero_le _,by simp[Be,h],fun j hj=>absurd hj (Nat.not_lt_zero j),fun _=>?_⟩;simpa[Aa]using h
  ·obtain⟨p,h1,h2,h3,h4⟩:=Jh x r;refine⟨p+1,by simpa using h1,by simp[Be,h,h2],fun j hj=>?_,fun hp=>?_⟩
   ·cases j with
    |zero=>simpa[Aa]using h
    |succ j=>have:=h3 j (by omega);simpa[Aa]using this
   ·have:=h4 (by simpa using hp);simpa[Aa]using this
theorem ax{lo:List Ab}{p j:Nat}{x:Ab}(hp:p<=lo.length):Aa (lo.take p++x::lo.drop p) j=Fh (Aa lo) p x j:=by
 unfold Aa Fh;simp only[List.getD_eq_getElem?_getD];have lp:(lo.take p).length=p:=by simp[hp]
 by_cases h1:j<p
 ·rw[if_pos h1,List.getElem?_append_left (by omega),List.getElem?_take_of_lt h1]
 ·rw[if_neg h1,List.getElem?_append_right (by omega),lp];by_cases h2:j=p
  ·subst h2;simp
  ·rw[if_neg h2];obtain⟨m,rfl⟩:∃m,j=p+m+1:=⟨j-p-1,by omega⟩;have e:p+m+1-p=m+1:=(by omega);rw[e,List.getElem?_cons_succ,List.getElem?_drop];congr 2
theorem Yv{lt:List Ac}{lo:List Ab}(ok:okL lt lo=true){x:Ab}(hx:Ml x)(hn:Ex lt.length (As lt) x.id=true){u:Nat}(hu:Gw lo x.up=some u)(hk:(Aa lo u).kind=3)(hne:∀j,j<lo.length->(Aa lo j).id≠x.id)(h1:1<x.id):okL lt (Be x lo)=true:=by
 obtain⟨p,hp,e,lo',hi'⟩:=Jh x lo;have kk:=BF.1 ok;have u1:=AE hu;have p0:0<p:=by
  by_cases h:p=0
  ·subst h;have:=hi' (by have:=GM ok;omega);have:=(Gv ok).2.1;omega
  ·omega
 have k:=kk.ins (p:=p) (x:=x) p0 hp (fun j hj=>by
  have h1:=lo' j hj;have h2:=hne j (by omega);show(Aa lo j).id<x.id;omega) (fun j hj hjn=>by
  have h0:=hi' (by have:j<lo.length:=hjn;omega);show x.id<(Aa lo j).id;by_cases ej:j=p
  ·subst ej;exact h0
  ·have h2:(Aa lo p).id<(Aa lo j).id:=kk.rise p j (by omega) hjn;omega) (JU.2 hx) hn ⟨u,u1.1,u1.2,hk⟩
 have h:=BF.2 k;refine(Ds ?_).trans h;have el:(Be x lo).length=lo.length+1:=Jy;refine⟨rfl,fun j hj=>Hc _,el,fun j hj=>?_⟩;have e2:(DW none 0 none 0 lt (Be x lo)).O j=((DW none 0 none 0 lt lo).ins p x).O j:=by
  show Aa (Be x lo) j=Fh (Aa lo) p x j;rw[e];exact ax hp
 rw[e2];exact Ab.same.refl _
theorem XE{G:List Int}{x:Int}:hasB G.length (AL G) x=true↔x∈G:=by
 unfold hasB;rw[List.any_eq_true];constructor
 ·rintro⟨i,hi,e⟩;have hi':=List.mem_range.1 hi;have:AL G i=x:=by simpa using e
  rw[<-this];unfold AL;rw[List.getD_eq_getElem?_getD,List.getElem?_eq_getElem hi'];exact List.getElem_mem hi'
 ·intro h;obtain⟨i,hi,e⟩:=List.mem_iff_getElem.1 h;exact⟨i,List.mem_range.2 hi,by simp[AL,hi,e]⟩
theorem Zx(lo:List Ab):(List.range lo.length).map (Aa lo)=lo:=by
 refine List.ext_getElem (by simp) (fun i h1 h2=>?_);simp[Aa,h2]
theorem YO{lt:List Ac}{lo:List Ab}(ok:okL lt lo=true){x:Int}{u:Nat}(hu:Gw lo x=some u)(u0:0<u):okL lt (DO (Bv lo u) lo lo.length)=true:=by
 have kk:=BF.1 ok;obtain⟨ul,_⟩:=AE hu;have h0:∀j,j<lo.length->(fun i=>(Aa lo i).id) j≠(fun i=>(Aa lo i).up) 0:=fun j hj=>by
  have:=YQ ok hj;have:=(Gv ok).2.2;show(Aa lo j).id≠(Aa lo 0).up;omega
 have rise:CM (fun i=>(Aa lo i).id) lo.length:=kk.rise;have hc:Gx (fun i=>(Aa lo i).id) (fun i=>(Aa lo i).up) lo.length u:=IB ok ul;have gone:∀y,hasB (Bv lo u).length (AL (Bv lo u)) y=true↔∃i,i<lo.length/\(∃m,m<lo.length/\Bg (fun i=>(Aa lo i).id) (fun i=>(Aa lo i).up) lo.length m i=some u)/\(Aa lo i).id=y:=by
  intro y;rw[XE];unfold Bv;rw[Kr,List.mem_map];constructor
  ·rintro⟨i,hi,e⟩;have:=(DT rise h0 ul).1 hi;exact⟨i,this.1,this.2,e⟩
  ·rintro⟨i,h1,h2,e⟩;exact⟨i,(DT rise h0 ul).2 ⟨h1,h2⟩,e⟩
 have k:=kk.cut (keep:=fun i=> !hasB (Bv lo u).length (AL (Bv lo u)) (Aa lo i).id) (by
  simp only[Bool.not_eq_true'];rw[<-Bool.not_eq_true,gone];rintro⟨i,hi,⟨m,_,hm⟩,e⟩;have e0:i=0:=rise.inj hi (by omega) e;subst e0;cases m with
  |zero=>simp[Bg]at hm;omega
  |succ m=>simp[Bg,IM]at hm) (fun i p i0 hi hp e hk=>by
  simp only[Bool.not_eq_true']at hk ⊢;rw[<-Bool.not_eq_true,gone]at hk ⊢;rintro⟨j,hj,⟨m,_,hm⟩,ej⟩;have e1:j=p:=rise.inj hj hp ej;subst e1;refine hk ⟨i,hi,?_,rfl⟩;have pi:IM (fun i=>(Aa lo i).id) (fun i=>(Aa lo i).up) lo.length i=some j:=by
   unfold IM;rw[if_neg (by omega)];have e':(Aa lo i).up=(Aa lo j).id:=e.symm;show Bd (fun i=>(Aa lo i).id) lo.length (Aa lo i).up=some j;rw[e'];exact De rise hp
  have pm:Bg (fun i=>(Aa lo i).id) (fun i=>(Aa lo i).up) lo.length (1+m) i=some u:=by
   rw[Ef,OZ,pi];exact hm
  exact⟨1+m,Nk hc hi pm,pm⟩)
 have h:=BF.2 k;refine(Ds ?_).trans h;have es:DO (Bv lo u) lo lo.length=(D5 lo.length (fun i=> !hasB (Bv lo u).length (AL (Bv lo u)) (Aa lo i).id)).map (Aa lo):=by
  unfold DO D5;rw[List.take_length];generalize Bv lo u=G;have e1:lo.filter (fun o=> !hasB G.length (AL G) o.id)=((List.range lo.length).map (Aa lo)).filter (fun o=> !hasB G.length (AL G) o.id):=by rw[Zx]
  rw[e1,List.filter_map];rfl
 refine⟨rfl,fun j hj=>Hc _,by show(DO _ lo lo.length).length=_;rw[es];simp[Ar.cut,DW],fun j hj=>?_⟩;have e2:(DW none 0 none 0 lt (DO (Bv lo u) lo lo.length)).O j=((DW none 0 none 0 lt lo).cut (fun i=> !hasB (Bv lo u).length (AL (Bv lo u)) (Aa lo i).id)).O j:=by
  have hj':j<(D5 lo.length (fun i=> !hasB (Bv lo u).length (AL (Bv lo u)) (Aa lo i).id)).length:=hj;show Aa (DO (Bv lo u) lo lo.length) j=Aa lo ((D5 lo.length (fun i=> !hasB (Bv lo u).length (AL (Bv lo u)) (Aa lo i).id)).getD j 0);rw[es];rw[AM (by simpa using hj')];simp[hj']
 rw[e2];exact Ab.same.refl _
end Go.Proofs.YtmikapeeflcbfaaGreatDoor
