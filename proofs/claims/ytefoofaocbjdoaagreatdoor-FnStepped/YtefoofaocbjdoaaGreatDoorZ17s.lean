import Derived.Maps.OwnOps
import Derived.BigRegion
import Derived.Test.YtefoofaocbjdoaaGreatDoorNE2s
import Derived.Test.YtefoofaocbjdoaaGreatDoorHEs
set_option maxRecDepth 100000
set_option maxHeartbeats 16000000
namespace Go.Proofs.YtefoofaocbjdoaaGreatDoor
open Go Go.RowKit Go.Deep Go.Maps Go.BigFrame Go.Shelf Go.Proofs.Tryz
inductive Gb(lt:List Ae) (lo:List Ab) (s:Al) (c:Int) (tx:ByteArray) (lt':List Ae) (lo':List Ab):Prop
 |form (h:s.ok=false) (hc:c=2) (ht:tx=⟨#[]⟩) (e1:lt'=lt) (e2:lo'=lo)
 |thread (h:s.ok=true) (hn:Tb lt s.th=none) (hc:c=3) (ht:tx=⟨#[]⟩) (e1:lt'=lt) (e2:lo'=lo)
 |act (h:s.ok=true) (t:Nat) (ht:t<lt.length) (hn:Tb lt s.th=some t) (p:FV lt[t] s lt lo t c tx lt' lo')
variable {ca co:Nat}{ta oa:Option Addr}{lt:List Ae}{lo:List Ab}{k:Ax}
theorem By.form{w:World}{B n m:Nat}(h:By w B (.slice ta n ca) (.slice oa m co) lt lo)(h1:0<lt.length)(h2:0<lo.length):∃g q,ta=some ⟨g,0,none⟩/\oa=some ⟨q,0,none⟩:=by
 obtain⟨rfl,rfl⟩:=h.len;obtain⟨g,_,_,e,_⟩:=Dt h.t h1;obtain⟨q,_,_,e',_⟩:=Dt h.o h2;exact⟨g,q,e,e'⟩
theorem Ll(ok:Bd k=true):k.small:=by
 obtain⟨h1,h2,_⟩:=BQ ok;have t:=CL h1;have o:=Cj h2;refine⟨⟨by omega,fun i hi=>?_⟩,by omega,fun i hi=>?_⟩
 ·have h:=t.2.2 i hi;unfold DT at h;simp only[Bool.and_eq_true]at h;exact(Io.1 h.1).small
 ·have h:=o.2.2.1 i hi;unfold FH at h;simp only[Bool.and_eq_true]at h;have f:=IY.1 h.1;have it:=f.jA;unfold Ee at it;simp only[Bool.and_eq_true,decide_eq_true_eq,List.all_eq_true,List.mem_range]at it;refine⟨by have:=(Bz f.l1).2;omega,by have:=Gh f.data;omega,⟨by omega,fun j hj=>?_⟩,by have:=I5 f.own;omega,by have:=(Bz f.l2).2;omega⟩;have:=Gh (it.2 j hj);omega
theorem Ow(h:k.same (Cp ta ca oa co lt lo))(x:Int):Bl (fun i=>(k.T i).id) k.tn x=Tb lt x:=by
 unfold Tb;have e:lt.length=k.tn:=h.1;rw[e];exact(IN (fun i hi=>(h.2.1 i hi).1) x).symm
theorem Rk(h:k.same (Cp ta ca oa co lt lo)):k.same (Cp none 0 none 0 lt lo):=h
theorem Ur(k:Ax)(w:World)(hk:k.at w)(ok:Bd k=true)(s:Al)(hs:s.at w):
 Calls prog 19 #[.agg #[.slice k.ta k.tn k.tk,.slice k.oa k.on k.ok],.agg s] w fun e w'=>∃(lt:List Ae) (lo:List Ab) (lt':List Ae) (lo':List Ab) (ta:Option Addr) (ca:Nat) (oa:Option Addr) (co:Nat) (c:Int) (tx:ByteArray),e= .returned (.tuple #[.agg #[.slice ta lt'.length ca,.slice oa lo'.length co],.int .i64 c,.string tx])/\By w' w (.slice ta lt'.length ca) (.slice oa lo'.length co) lt' lo'/\Below w w w'/\k.same (Cp none 0 none 0 lt lo)/\Gb lt lo s c tx lt' lo':=by
 have n2:Na s:=⟨⟩;have n4:No (.cells #[.slice k.ta k.tn k.tk,.slice k.oa k.on k.ok] 27):=⟨⟩;have n5:No (.cells #[.slice none 0 0,.slice none 0 0] 27):=⟨⟩;have n1:Nw (((w.alloc n4).alloc (.cells n2 32)).alloc n5):=⟨⟩;have b0:Below w w n1:=((Be w _).alloc (by simp) _).alloc (by simp;omega) _;have A0:Ah n1 w n4:=((Ah.new w _).alloc _).alloc _;have P0:Ah n1 (w.heap.size+1) (.cells n2 32):=by have:=(Ah.new (w.alloc n4) (.cells n2 32)).alloc n5;simpa using this
 have R0:Ah n1 (w.heap.size+1+1) n5:=by have:=Ah.new ((w.alloc n4).alloc (.cells n2 32)) n5;simpa using this
 have HK:=hid hk;have OK:=hid ok;have SA:=hid hs;have HB:=hid b0;have HA:=hid A0;have HP:=hid P0;have HR:=hid R0;have sm:=Ll ok;have SMA:=hid sm;clear b0 A0 P0 R0 hk ok hs sm;go_enter func19,ntmps19
 obtain⟨x0,x1⟩:=HA.out.two;obtain⟨s0,s1,s2,s3,s4,s5,s6,s7,s8,s9⟩:=HP.out.jE;go_wp2_with fail
 have BX:Hid (∀W,Below (n1:World).heap.size n1 W->Ah W w n4/\Ah W (w.heap.size+1) (.cells n2 32)/\Ah W (w.heap.size+1+1) n5):=hid (fun W hW=>⟨HA.out.below hW,HP.out.below hW,HR.out.below hW⟩);have LW:Hid (∀W,Below (n1:World).heap.size n1 W->Below w w W):=hid (fun W hW=>Af HB hW);have V0:=hid (Below.refl (n1:World).heap.size n1);have S0:=hid HB.out.size;clear x0 x1 s0 s1 s2 s3 s4 s5 s6 s7 s8 s9 HA HP HR HB;generalize (n1:World)=V at *;refine(Tx k V (HK.out.below (LW _ V0)) SMA).mono ?_;rintro e w1 ⟨lt,lo,ta,oa,ca,co,rfl,ks,sm,hb1⟩;have V1:=hid (Af V0 hb1);have SM:=hid (Rk sm);have OKL:Hid (okL lt lo=true):=hid ((Cs sm).trans OK);have TS:Hid (Bl (fun i=>(k.T i).id) k.tn s.th=Tb lt s.th):=hid (Ow sm s.th);obtain⟨g,q,rfl,rfl⟩:=ks.form (by have:=FY OKL.out;omega) (by have:=Ec OKL.out;omega);have KS1:=hid ks;clear hb1 sm ks V0;have n3:No (.cells #[.slice g lt.length ca,.slice q lo.length co] 27):=⟨⟩;have V2:=hid (V1.out.alloc V1.out.size n3);have O2:=hid (Ah.new w1 n3);have KS2:=hid (KS1.out.below ((Below.refl _ w1).alloc nr n3));clear KS1;obtain⟨x0,x1⟩:=(BX _ V2).1.two;obtain⟨s0,s1,s2,s3,s4,s5,s6,s7,s8,s9⟩:=(BX _ V2).2.1.jE;obtain⟨r0,r1⟩:=(BX _ V2).2.2.two;have rf:=(BX _ V2).2.2.jC;go_wp2_with fail
 clear x0 x1 s0 s1 s2 s3 s4 s5 s6 s7 s8 s9 r0 r1 rf;clear V1;generalize w1.alloc n3=W2 at *;generalize w1.heap.size=O at *;have SS:Hid (Calls prog 59 #[.agg n2] W2 fun e w'=>e= .returned (.bool s.ok)/\Below W2 W2 w'):=hid (by
  have h:=SA.out.below (LW _ V2);exact Rb s.th s.kind s.id s.to s.cat s.data s.b1 s.c1.a s.c1.n s.c1.k s.c1.f s.c1.g s.b2 s.c2.a s.c2.n s.c2.k s.c2.f s.c2.g W2 h.2.2 h.1.1 h.2.1.1 h.1.2 h.2.1.2)
 refine SS.out.mono ?_;rintro e w3 ⟨rfl,hb3⟩;have V3:=hid (Af V2 hb3);have KS3:=hid (KS2.out.below hb3);have O3:=hid (O2.out.below hb3);clear hb3 SS V2 O2 KS2;have L3:=hid (LW.out _ V3);obtain⟨x0,x1⟩:=(BX _ V3).1.two;obtain⟨s0,s1,s2,s3,s4,s5,s6,s7,s8,s9⟩:=(BX _ V3).2.1.jE;obtain⟨r0,r1⟩:=(BX _ V3).2.2.two;have rf:=(BX _ V3).2.2.jC;obtain⟨u0,u1⟩:=O3.out.two;cases so:s.ok with
 |false=>
  have SO:=hid so;go_wp2;have RB:=hid (BX.out _ V3).2.2;refine bodyPost_ret (Ak _ _ (w.heap.size+1+1) 4 _ _ _ _ Tryz.results19 ((RB.out.jB (i:=0) _).jB (i:=1) _) rfl rfl rfl) rfl ⟨lt,lo,lt,lo,(some ⟨g,0,none⟩),ca,(some ⟨q,0,none⟩),co,2,_,rfl,?_,?_,SM,.form SO rfl rfl rfl rfl⟩
  ·exact((KS3.out.base S0).set RB (.inl rfl) _).set (RB.out.jB (i:=0) _) (.inl rfl) _
  ·exact(L3.out.setCell (by dsimp only;omega) _).setCell (by dsimp only;omega) _
 |true=>
  have SO:=hid so;clear so;go_wp2_with fail
  refine(Iu k s.th w3 (HK.out.below L3)).mono ?_;rintro e w4 ⟨rfl,hb4⟩;rw[TS.out];have V4:=hid (Af V3 hb4);have KS4:=hid (KS3.out.below hb4);have O4:=hid (O3.out.below hb4);clear hb4 V3 KS3 O3 x0 x1 s0 s1 s2 s3 s4 s5 s6 s7 s8 s9 r0 r1 rf u0 u1 L3;have L3:=hid (LW.out _ V4);obtain⟨x0,x1⟩:=(BX _ V4).1.two;obtain⟨s0,s1,s2,s3,s4,s5,s6,s7,s8,s9⟩:=(BX _ V4).2.1.jE;obtain⟨r0,r1⟩:=(BX _ V4).2.2.two;have rf:=(BX _ V4).2.2.jC;obtain⟨u0,u1⟩:=O4.out.two;cases hn:Tb lt s.th with
  |none=>
   have HN:=hid hn;simp only[GB];have j0:decide (((-1:Int))<0)=true:=rfl;go_wp2;have RB:=hid (BX.out _ V4).2.2;refine bodyPost_ret (Ak _ _ (w.heap.size+1+1) 4 _ _ _ _ Tryz.results19 ((RB.out.jB (i:=0) _).jB (i:=1) _) rfl rfl rfl) rfl ⟨lt,lo,lt,lo,(some ⟨g,0,none⟩),ca,(some ⟨q,0,none⟩),co,3,_,rfl,?_,?_,SM,.thread SO HN rfl rfl rfl rfl⟩
   ·exact((KS4.out.base S0).set RB (.inl rfl) _).set (RB.out.jB (i:=0) _) (.inl rfl) _
   ·exact(L3.out.setCell (by dsimp only;omega) _).setCell (by dsimp only;omega) _
  |some t=>
   have HT:=hid hn;have ht:t<lt.length:=(AE hn).1;clear hn;simp only[GB];have j0:decide (((t:Nat):Int)<0)=false:=decide_eq_false (by omega);have j1:¬((t:Nat):Int)<0:=(by omega);obtain⟨w3,e3⟩:∃W,W=w4:=⟨_,rfl⟩;subst e3;have KS3:=KS4;clear KS4;have SZ3:Hid (V.heap.size<=w3.heap.size):=hid V4.out.size;have SA3:Hid (∀W,Below V w3 W->s.at W):=hid (fun W hW=>SA.out.below (L3.out.trans (hW.mono S0)));have RR:Hid (∀W,Below V w3 W->Ah W (w.heap.size+1+1) (.cells #[.slice none 0 0,.slice none 0 0] 27)):=hid (fun W hW=>(BX _ (V4.out.trans hW)).2.2);have sk:=(GP SO).kind;have cs:(s.kind=1∨s.kind=12∨s.kind=14)∨(s.kind=2∨s.kind=3∨s.kind=4∨s.kind=5)∨s.kind=11∨(s.kind=6∨s.kind=7∨s.kind=8∨s.kind=9∨s.kind=10∨s.kind=13∨s.kind=15):=(by omega);have KIND:=hid cs;clear sk cs;rcases KIND with hk|hk|hk|hk
   ·have HKD:=hid hk;rcases hk with hk|hk|hk
    ·skip;have k1:(s.kind==1)=true:=(by rw[hk];rfl);have d1:decide (s.kind=1)=true:=(by rw[hk];rfl);have k12:(s.kind==12)=false:=(by rw[hk];rfl);have d12:decide (s.kind=12)=false:=(by rw[hk];rfl);have k14:(s.kind==14)=false:=(by rw[hk];rfl);have d14:decide (s.kind=14)=false:=(by rw[hk];rfl);have k2:(s.kind==2)=false:=(by rw[hk];rfl);have d2:decide (s.kind=2)=false:=(by rw[hk];rfl);have k3:(s.kind==3)=false:=(by rw[hk];rfl);have d3:decide (s.kind=3)=false:=(by rw[hk];rfl);have k4:(s.kind==4)=false:=(by rw[hk];rfl);have d4:decide (s.kind=4)=false:=(by rw[hk];rfl);have k5:(s.kind==5)=false:=(by rw[hk];rfl);have d5:decide (s.kind=5)=false:=(by rw[hk];rfl);have k11:(s.kind==11)=false:=(by rw[hk];rfl);have d11:decide (s.kind=11)=false:=(by rw[hk];rfl);clear hk;have AC:=hid (NJ lt lo g ca q co V w3 KS3 SZ3 OKL t ht s SA3 SO HKD);go_wp2_with fail
     refine AC.out.mono ?_;rintro e w5 ⟨lt',lo',ta,ca',oa,co',c,tx,rfl,k5,b5,p5⟩;have K5:=hid k5;have B5:=hid b5;have P5:=hid p5;clear k5 b5 p5 AC x0 x1 s0 s1 s2 s3 s4 s5 s6 s7 s8 s9 r0 r1 rf u0 u1;have RB:=hid (RR.out _ B5);have L5:=hid (L3.out.trans (B5.out.mono S0));obtain⟨r0,r1⟩:=RB.out.two;have rf:=RB.out.jC;go_wp2;refine bodyPost_ret (Ak _ _ (w.heap.size+1+1) 4 _ _ _ _ Tryz.results19 ((RB.out.jB (i:=0) _).jB (i:=1) _) rfl rfl rfl) rfl ⟨lt,lo,lt',lo',ta,ca',oa,co',c,tx,rfl,?_,?_,SM,.act SO t ht HT P5⟩
     ·exact((K5.out.base S0).set RB (.inl rfl) _).set (RB.out.jB (i:=0) _) (.inl rfl) _
     ·exact(L5.out.setCell (by dsimp only;omega) _).setCell (by dsimp only;omega) _
    ·skip;have k1:(s.kind==1)=false:=(by rw[hk];rfl);have d1:decide (s.kind=1)=false:=(by rw[hk];rfl);have k12:(s.kind==12)=true:=(by rw[hk];rfl);have d12:decide (s.kind=12)=true:=(by rw[hk];rfl);have k14:(s.kind==14)=false:=(by rw[hk];rfl);have d14:decide (s.kind=14)=false:=(by rw[hk];rfl);have k2:(s.kind==2)=false:=(by rw[hk];rfl);have d2:decide (s.kind=2)=false:=(by rw[hk];rfl);have k3:(s.kind==3)=false:=(by rw[hk];rfl);have d3:decide (s.kind=3)=false:=(by rw[hk];rfl);have k4:(s.kind==4)=false:=(by rw[hk];rfl);have d4:decide (s.kind=4)=false:=(by rw[hk];rfl);have k5:(s.kind==5)=false:=(by rw[hk];rfl);have d5:decide (s.kind=5)=false:=(by rw[hk];rfl);have k11:(s.kind==11)=false:=(by rw[hk];rfl);have d11:decide (s.kind=11)=false:=(by rw[hk];rfl);clear hk;have AC:=hid (NJ lt lo g ca q co V w3 KS3 SZ3 OKL t ht s SA3 SO HKD);go_wp2_with fail
     refine AC.out.mono ?_;rintro e w5 ⟨lt',lo',ta,ca',oa,co',c,tx,rfl,k5,b5,p5⟩;have K5:=hid k5;have B5:=hid b5;have P5:=hid p5;clear k5 b5 p5 AC x0 x1 s0 s1 s2 s3 s4 s5 s6 s7 s8 s9 r0 r1 rf u0 u1;have RB:=hid (RR.out _ B5);have L5:=hid (L3.out.trans (B5.out.mono S0));obtain⟨r0,r1⟩:=RB.out.two;have rf:=RB.out.jC;go_wp2;refine bodyPost_ret (Ak _ _ (w.heap.size+1+1) 4 _ _ _ _ Tryz.results19 ((RB.out.jB (i:=0) _).jB (i:=1) _) rfl rfl rfl) rfl ⟨lt,lo,lt',lo',ta,ca',oa,co',c,tx,rfl,?_,?_,SM,.act SO t ht HT P5⟩
     ·exact((K5.out.base S0).set RB (.inl rfl) _).set (RB.out.jB (i:=0) _) (.inl rfl) _
     ·exact(L5.out.setCell (by dsimp only;omega) _).setCell (by dsimp only;omega) _
    ·skip;have k1:(s.kind==1)=false:=(by rw[hk];rfl);have d1:decide (s.kind=1)=false:=(by rw[hk];rfl);have k12:(s.kind==12)=false:=(by rw[hk];rfl);have d12:decide (s.kind=12)=false:=(by rw[hk];rfl);have k14:(s.kind==14)=true:=(by rw[hk];rfl);have d14:decide (s.kind=14)=true:=(by rw[hk];rfl);have k2:(s.kind==2)=false:=(by rw[hk];rfl);have d2:decide (s.kind=2)=false:=(by rw[hk];rfl);have k3:(s.kind==3)=false:=(by rw[hk];rfl);have d3:decide (s.kind=3)=false:=(by rw[hk];rfl);have k4:(s.kind==4)=false:=(by rw[hk];rfl);have d4:decide (s.kind=4)=false:=(by rw[hk];rfl);have k5:(s.kind==5)=false:=(by rw[hk];rfl);have d5:decide (s.kind=5)=false:=(by rw[hk];rfl);have k11:(s.kind==11)=false:=(by rw[hk];rfl);have d11:decide (s.kind=11)=false:=(by rw[hk];rfl);clear hk;have AC:=hid (NJ lt lo g ca q co V w3 KS3 SZ3 OKL t ht s SA3 SO HKD);go_wp2_with fail
     refine AC.out.mono ?_;rintro e w5 ⟨lt',lo',ta,ca',oa,co',c,tx,rfl,k5,b5,p5⟩;have K5:=hid k5;have B5:=hid b5;have P5:=hid p5;clear k5 b5 p5 AC x0 x1 s0 s1 s2 s3 s4 s5 s6 s7 s8 s9 r0 r1 rf u0 u1;have RB:=hid (RR.out _ B5);have L5:=hid (L3.out.trans (B5.out.mono S0));obtain⟨r0,r1⟩:=RB.out.two;have rf:=RB.out.jC;go_wp2;refine bodyPost_ret (Ak _ _ (w.heap.size+1+1) 4 _ _ _ _ Tryz.results19 ((RB.out.jB (i:=0) _).jB (i:=1) _) rfl rfl rfl) rfl ⟨lt,lo,lt',lo',ta,ca',oa,co',c,tx,rfl,?_,?_,SM,.act SO t ht HT P5⟩
     ·exact((K5.out.base S0).set RB (.inl rfl) _).set (RB.out.jB (i:=0) _) (.inl rfl) _
     ·exact(L5.out.setCell (by dsimp only;omega) _).setCell (by dsimp only;omega) _
   ·have HKD:=hid hk;rcases hk with hk|hk|hk|hk
    ·skip;have k1:(s.kind==1)=false:=(by rw[hk];rfl);have d1:decide (s.kind=1)=false:=(by rw[hk];rfl);have k12:(s.kind==12)=false:=(by rw[hk];rfl);have d12:decide (s.kind=12)=false:=(by rw[hk];rfl);have k14:(s.kind==14)=false:=(by rw[hk];rfl);have d14:decide (s.kind=14)=false:=(by rw[hk];rfl);have k2:(s.kind==2)=true:=(by rw[hk];rfl);have d2:decide (s.kind=2)=true:=(by rw[hk];rfl);have k3:(s.kind==3)=false:=(by rw[hk];rfl);have d3:decide (s.kind=3)=false:=(by rw[hk];rfl);have k4:(s.kind==4)=false:=(by rw[hk];rfl);have d4:decide (s.kind=4)=false:=(by rw[hk];rfl);have k5:(s.kind==5)=false:=(by rw[hk];rfl);have d5:decide (s.kind=5)=false:=(by rw[hk];rfl);have k11:(s.kind==11)=false:=(by rw[hk];rfl);have d11:decide (s.kind=11)=false:=(by rw[hk];rfl);clear hk;have AC:=hid (Kv lt lo g ca q co V w3 KS3 SZ3 OKL t ht s SA3 SO HKD);go_wp2_with fail
     refine AC.out.mono ?_;rintro e w5 ⟨lt',lo',ta,ca',oa,co',c,tx,rfl,k5,b5,p5⟩;have K5:=hid k5;have B5:=hid b5;have P5:=hid p5;clear k5 b5 p5 AC x0 x1 s0 s1 s2 s3 s4 s5 s6 s7 s8 s9 r0 r1 rf u0 u1;have RB:=hid (RR.out _ B5);have L5:=hid (L3.out.trans (B5.out.mono S0));obtain⟨r0,r1⟩:=RB.out.two;have rf:=RB.out.jC;go_wp2;refine bodyPost_ret (Ak _ _ (w.heap.size+1+1) 4 _ _ _ _ Tryz.results19 ((RB.out.jB (i:=0) _).jB (i:=1) _) rfl rfl rfl) rfl ⟨lt,lo,lt',lo',ta,ca',oa,co',c,tx,rfl,?_,?_,SM,.act SO t ht HT P5⟩
     ·exact((K5.out.base S0).set RB (.inl rfl) _).set (RB.out.jB (i:=0) _) (.inl rfl) _
     ·exact(L5.out.setCell (by dsimp only;omega) _).setCell (by dsimp only;omega) _
    ·skip;have k1:(s.kind==1)=false:=(by rw[hk];rfl);have d1:decide (s.kind=1)=false:=(by rw[hk];rfl);have k12:(s.kind==12)=false:=(by rw[hk];rfl);have d12:decide (s.kind=12)=false:=(by rw[hk];rfl);have k14:(s.kind==14)=false:=(by rw[hk];rfl);have d14:decide (s.kind=14)=false:=(by rw[hk];rfl);have k2:(s.kind==2)=false:=(by rw[hk];rfl);have d2:decide (s.kind=2)=false:=(by rw[hk];rfl);have k3:(s.kind==3)=true:=(by rw[hk];rfl);have d3:decide (s.kind=3)=true:=(by rw[hk];rfl);have k4:(s.kind==4)=false:=(by rw[hk];rfl);have d4:decide (s.kind=4)=false:=(by rw[hk];rfl);have k5:(s.kind==5)=false:=(by rw[hk];rfl);have d5:decide (s.kind=5)=false:=(by rw[hk];rfl);have k11:(s.kind==11)=false:=(by rw[hk];rfl);have d11:decide (s.kind=11)=false:=(by rw[hk];rfl);clear hk;have AC:=hid (Kv lt lo g ca q co V w3 KS3 SZ3 OKL t ht s SA3 SO HKD);go_wp2_with fail
     refine AC.out.mono ?_;rintro e w5 ⟨lt',lo',ta,ca',oa,co',c,tx,rfl,k5,b5,p5⟩;have K5:=hid k5;have B5:=hid b5;have P5:=hid p5;clear k5 b5 p5 AC x0 x1 s0 s1 s2 s3 s4 s5 s6 s7 s8 s9 r0 r1 rf u0 u1;have RB:=hid (RR.out _ B5);have L5:=hid (L3.out.trans (B5.out.mono S0));obtain⟨r0,r1⟩:=RB.out.two;have rf:=RB.out.jC;go_wp2;refine bodyPost_ret (Ak _ _ (w.heap.size+1+1) 4 _ _ _ _ Tryz.results19 ((RB.out.jB (i:=0) _).jB (i:=1) _) rfl rfl rfl) rfl ⟨lt,lo,lt',lo',ta,ca',oa,co',c,tx,rfl,?_,?_,SM,.act SO t ht HT P5⟩
     ·exact((K5.out.base S0).set RB (.inl rfl) _).set (RB.out.jB (i:=0) _) (.inl rfl) _
     ·exact(L5.out.setCell (by dsimp only;omega) _).setCell (by dsimp only;omega) _
    ·skip;have k1:(s.kind==1)=false:=(by rw[hk];rfl);have d1:decide (s.kind=1)=false:=(by rw[hk];rfl);have k12:(s.kind==12)=false:=(by rw[hk];rfl);have d12:decide (s.kind=12)=false:=(by rw[hk];rfl);have k14:(s.kind==14)=false:=(by rw[hk];rfl);have d14:decide (s.kind=14)=false:=(by rw[hk];rfl);have k2:(s.kind==2)=false:=(by rw[hk];rfl);have d2:decide (s.kind=2)=false:=(by rw[hk];rfl);have k3:(s.kind==3)=false:=(by rw[hk];rfl);have d3:decide (s.kind=3)=false:=(by rw[hk];rfl);have k4:(s.kind==4)=true:=(by rw[hk];rfl);have d4:decide (s.kind=4)=true:=(by rw[hk];rfl);have k5:(s.kind==5)=false:=(by rw[hk];rfl);have d5:decide (s.kind=5)=false:=(by rw[hk];rfl);have k11:(s.kind==11)=false:=(by rw[hk];rfl);have d11:decide (s.kind=11)=false:=(by rw[hk];rfl);clear hk;have AC:=hid (Kv lt lo g ca q co V w3 KS3 SZ3 OKL t ht s SA3 SO HKD);go_wp2_with fail
     refine AC.out.mono ?_;rintro e w5 ⟨lt',lo',ta,ca',oa,co',c,tx,rfl,k5,b5,p5⟩;have K5:=hid k5;have B5:=hid b5;have P5:=hid p5;clear k5 b5 p5 AC x0 x1 s0 s1 s2 s3 s4 s5 s6 s7 s8 s9 r0 r1 rf u0 u1;have RB:=hid (RR.out _ B5);have L5:=hid (L3.out.trans (B5.out.mono S0));obtain⟨r0,r1⟩:=RB.out.two;have rf:=RB.out.jC;go_wp2;refine bodyPost_ret (Ak _ _ (w.heap.size+1+1) 4 _ _ _ _ Tryz.results19 ((RB.out.jB (i:=0) _).jB (i:=1) _) rfl rfl rfl) rfl ⟨lt,lo,lt',lo',ta,ca',oa,co',c,tx,rfl,?_,?_,SM,.act SO t ht HT P5⟩
     ·exact((K5.out.base S0).set RB (.inl rfl) _).set (RB.out.jB (i:=0) _) (.inl rfl) _
     ·exact(L5.out.setCell (by dsimp only;omega) _).setCell (by dsimp only;omega) _
    ·skip;have k1:(s.kind==1)=false:=(by rw[hk];rfl);have d1:decide (s.kind=1)=false:=(by rw[hk];rfl);have k12:(s.kind==12)=false:=(by rw[hk];rfl);have d12:decide (s.kind=12)=false:=(by rw[hk];rfl);have k14:(s.kind==14)=false:=(by rw[hk];rfl);have d14:decide (s.kind=14)=false:=(by rw[hk];rfl);have k2:(s.kind==2)=false:=(by rw[hk];rfl);have d2:decide (s.kind=2)=false:=(by rw[hk];rfl);have k3:(s.kind==3)=false:=(by rw[hk];rfl);have d3:decide (s.kind=3)=false:=(by rw[hk];rfl);have k4:(s.kind==4)=false:=(by rw[hk];rfl);have d4:decide (s.kind=4)=false:=(by rw[hk];rfl);have k5:(s.kind==5)=true:=(by rw[hk];rfl);have d5:decide (s.kind=5)=true:=(by rw[hk];rfl);have k11:(s.kind==11)=false:=(by rw[hk];rfl);have d11:decide (s.kind=11)=false:=(by rw[hk];rfl);clear hk;have AC:=hid (Kv lt lo g ca q co V w3 KS3 SZ3 OKL t ht s SA3 SO HKD);go_wp2_with fail
     refine AC.out.mono ?_;rintro e w5 ⟨lt',lo',ta,ca',oa,co',c,tx,rfl,k5,b5,p5⟩;have K5:=hid k5;have B5:=hid b5;have P5:=hid p5;clear k5 b5 p5 AC x0 x1 s0 s1 s2 s3 s4 s5 s6 s7 s8 s9 r0 r1 rf u0 u1;have RB:=hid (RR.out _ B5);have L5:=hid (L3.out.trans (B5.out.mono S0));obtain⟨r0,r1⟩:=RB.out.two;have rf:=RB.out.jC;go_wp2;refine bodyPost_ret (Ak _ _ (w.heap.size+1+1) 4 _ _ _ _ Tryz.results19 ((RB.out.jB (i:=0) _).jB (i:=1) _) rfl rfl rfl) rfl ⟨lt,lo,lt',lo',ta,ca',oa,co',c,tx,rfl,?_,?_,SM,.act SO t ht HT P5⟩
     ·exact((K5.out.base S0).set RB (.inl rfl) _).set (RB.out.jB (i:=0) _) (.inl rfl) _
     ·exact(L5.out.setCell (by dsimp only;omega) _).setCell (by dsimp only;omega) _
   ·have HKD:=hid hk;have k1:(s.kind==1)=false:=(by rw[hk];rfl);have d1:decide (s.kind=1)=false:=(by rw[hk];rfl);have k12:(s.kind==12)=false:=(by rw[hk];rfl);have d12:decide (s.kind=12)=false:=(by rw[hk];rfl);have k14:(s.kind==14)=false:=(by rw[hk];rfl);have d14:decide (s.kind=14)=false:=(by rw[hk];rfl);have k2:(s.kind==2)=false:=(by rw[hk];rfl);have d2:decide (s.kind=2)=false:=(by rw[hk];rfl);have k3:(s.kind==3)=false:=(by rw[hk];rfl);have d3:decide (s.kind=3)=false:=(by rw[hk];rfl);have k4:(s.kind==4)=false:=(by rw[hk];rfl);have d4:decide (s.kind=4)=false:=(by rw[hk];rfl);have k5:(s.kind==5)=false:=(by rw[hk];rfl);have d5:decide (s.kind=5)=false:=(by rw[hk];rfl);have k11:(s.kind==11)=true:=(by rw[hk];rfl);have d11:decide (s.kind=11)=true:=(by rw[hk];rfl);clear hk;have AC:=hid (Yp lt lo g ca q co V w3 KS3 SZ3 OKL t ht s SA3 SO HKD);go_wp2_with fail
    refine AC.out.mono ?_;rintro e w5 ⟨lt',lo',ta,ca',oa,co',c,tx,rfl,k5,b5,p5⟩;have K5:=hid k5;have B5:=hid b5;have P5:=hid p5;clear k5 b5 p5 AC x0 x1 s0 s1 s2 s3 s4 s5 s6 s7 s8 s9 r0 r1 rf u0 u1;have RB:=hid (RR.out _ B5);have L5:=hid (L3.out.trans (B5.out.mono S0));obtain⟨r0,r1⟩:=RB.out.two;have rf:=RB.out.jC;go_wp2;refine bodyPost_ret (Ak _ _ (w.heap.size+1+1) 4 _ _ _ _ Tryz.results19 ((RB.out.jB (i:=0) _).jB (i:=1) _) rfl rfl rfl) rfl ⟨lt,lo,lt',lo',ta,ca',oa,co',c,tx,rfl,?_,?_,SM,.act SO t ht HT P5⟩
    ·exact((K5.out.base S0).set RB (.inl rfl) _).set (RB.out.jB (i:=0) _) (.inl rfl) _
    ·exact(L5.out.setCell (by dsimp only;omega) _).setCell (by dsimp only;omega) _
   ·have HKD:=hid hk;have k1:(s.kind==1)=false:=(by simp only[beq_eq_false_iff_ne,ne_eq];omega);have d1:decide (s.kind=1)=false:=decide_eq_false (by omega);have k12:(s.kind==12)=false:=(by simp only[beq_eq_false_iff_ne,ne_eq];omega);have d12:decide (s.kind=12)=false:=decide_eq_false (by omega);have k14:(s.kind==14)=false:=(by simp only[beq_eq_false_iff_ne,ne_eq];omega);have d14:decide (s.kind=14)=false:=decide_eq_false (by omega);have k2:(s.kind==2)=false:=(by simp only[beq_eq_false_iff_ne,ne_eq];omega);have d2:decide (s.kind=2)=false:=decide_eq_false (by omega);have k3:(s.kind==3)=false:=(by simp only[beq_eq_false_iff_ne,ne_eq];omega);have d3:decide (s.kind=3)=false:=decide_eq_false (by omega);have k4:(s.kind==4)=false:=(by simp only[beq_eq_false_iff_ne,ne_eq];omega);have d4:decide (s.kind=4)=false:=decide_eq_false (by omega);have k5:(s.kind==5)=false:=(by simp only[beq_eq_false_iff_ne,ne_eq];omega);have d5:decide (s.kind=5)=false:=decide_eq_false (by omega);have k11:(s.kind==11)=false:=(by simp only[beq_eq_false_iff_ne,ne_eq];omega);have d11:decide (s.kind=11)=false:=decide_eq_false (by omega);clear hk;have AC:=hid (YX lt lo g ca q co V w3 KS3 SZ3 OKL t ht s SA3 SO HKD);go_wp2_with fail
    refine AC.out.mono ?_;rintro e w5 ⟨lt',lo',ta,ca',oa,co',c,tx,rfl,k5,b5,p5⟩;have K5:=hid k5;have B5:=hid b5;have P5:=hid p5;clear k5 b5 p5 AC x0 x1 s0 s1 s2 s3 s4 s5 s6 s7 s8 s9 r0 r1 rf u0 u1;have RB:=hid (RR.out _ B5);have L5:=hid (L3.out.trans (B5.out.mono S0));obtain⟨r0,r1⟩:=RB.out.two;have rf:=RB.out.jC;go_wp2;refine bodyPost_ret (Ak _ _ (w.heap.size+1+1) 4 _ _ _ _ Tryz.results19 ((RB.out.jB (i:=0) _).jB (i:=1) _) rfl rfl rfl) rfl ⟨lt,lo,lt',lo',ta,ca',oa,co',c,tx,rfl,?_,?_,SM,.act SO t ht HT P5⟩
    ·exact((K5.out.base S0).set RB (.inl rfl) _).set (RB.out.jB (i:=0) _) (.inl rfl) _
    ·exact(L5.out.setCell (by dsimp only;omega) _).setCell (by dsimp only;omega) _
theorem aN{k:Ax}(ok:Bd k=true):∀i,i<k.on->0<=(k.O i).id/\(k.O i).id<=1000000:=fun i hi=>by
 have h:=Bv.1 ok;by_cases h0:i=0
 ·subst h0;have r:=h.root;unfold FP at r;simp only[Bool.and_eq_true,beq_iff_eq]at r;omega
 ·obtain⟨t,h1,h2,h3,h4⟩:=FA h.thr (h.num i (by omega) hi);have f:=(CL h.thr).2.2 t h1;unfold DT at f;simp only[Bool.and_eq_true]at f;have g:=Io.1 f.1;have:=g.id;have:=g.made;omega
theorem RS{x:Int}(h:0<=x/\x<=1000000):(Lit.int .i64 x).wf=true:=by
 have e1:IntKind.i64.min= -9223372036854775808:=by decide
 have e2:IntKind.i64.max=9223372036854775807:=by decide
 simp[Lit.wf,e1,e2];omega
theorem Me(k:Ax)(w:World)(hk:k.at w)(ok:Bd k=true)(s:Al)(hs:s.at w):
 Calls prog 7 #[.agg #[.slice k.ta k.tn k.tk,.slice k.oa k.on k.ok],.agg s] w fun e w'=>∃(lt:List Ae) (lo:List Ab) (lt':List Ae) (lo':List Ab) (ta:Option Addr) (ca:Nat) (oa:Option Addr) (co:Nat) (c:Int) (tx:ByteArray),e= .returned (.tuple #[.agg #[.slice ta lt'.length ca,.slice oa lo'.length co],.int .i64 c,.string tx])/\By w' w (.slice ta lt'.length ca) (.slice oa lo'.length co) lt' lo'/\Below w w w'/\k.same (Cp none 0 none 0 lt lo)/\Gb lt lo s c tx lt' lo':=by
 have n1:No (.cells s 32):=⟨⟩;have n3:Na #[.slice k.ta k.tn k.tk,.slice k.oa k.on k.ok]:=⟨⟩;have n4:No (.cells #[.slice none 0 0,.slice none 0 0] 27):=⟨⟩;have n2:Nw (((w.alloc (.cells n3 27)).alloc n1).alloc n4):=⟨⟩;have b0:Below w w n2:=((Be w _).alloc (by simp) _).alloc (by simp;omega) _;have A0:Ah n2 w (.cells n3 27):=((Ah.new w _).alloc _).alloc _;have P0:Ah n2 (w.heap.size+1) n1:=by have:=(Ah.new (w.alloc (.cells n3 27)) n1).alloc n4;simpa using this
 have R0:Ah n2 (w.heap.size+1+1) n4:=by have:=Ah.new ((w.alloc (.cells n3 27)).alloc n1) n4;simpa using this
 have HK:=hid hk;have OK:=hid ok;have SA:=hid hs;have HB:=hid b0;have HA:=hid A0;have HP:=hid P0;have HR:=hid R0;clear b0 A0 P0 R0 hk ok hs;go_enter func7,ntmps7
 obtain⟨x0,x1⟩:=HA.out.two;obtain⟨s0,s1,s2,s3,s4,s5,s6,s7,s8,s9⟩:=HP.out.jE;go_wp2_with fail
 clear x0 x1 s0 s1 s2 s3 s4 s5 s6 s7 s8 s9;have S0:=hid HB.out.size;generalize (n2:World)=V at *;have C1:Hid (Calls prog 18 #[.agg n3] V fun e w'=>e= .returned (.bool true)/\Below V V w'):=hid (by
  have h:=Jh k V (HK.out.below HB) (fun i hi=>RS (aN OK i hi));rw[OK.out]at h;exact h)
 refine C1.out.mono ?_;rintro e w1 ⟨rfl,hb1⟩;have B1:=hid hb1;have L1:=hid (Af HB hb1);clear hb1;obtain⟨x0,x1⟩:=(HA.out.below B1).two;obtain⟨s0,s1,s2,s3,s4,s5,s6,s7,s8,s9⟩:=(HP.out.below B1).jE;go_wp2_with fail
 refine(Ur k w1 (HK.out.below L1) OK s (SA.out.below L1)).mono ?_;rintro e w2 ⟨lt,lo,lt',lo',ta,ca,oa,co,c,tx,rfl,k2,b2,sm,dp⟩;have K2:=hid (k2.base L1.out.size);have L2:=hid (Af L1 b2);have SM:=hid sm;have DP:=hid dp;have RB:=hid ((HR.out.below B1).below b2);clear k2 b2 sm dp x0 x1 s0 s1 s2 s3 s4 s5 s6 s7 s8 s9;obtain⟨r0,r1⟩:=RB.out.two;have rf:=RB.out.jC;go_wp2;refine bodyPost_ret (Ak _ _ (w.heap.size+1+1) 4 _ _ _ _ Tryz.results7 ((RB.out.jB (i:=0) _).jB (i:=1) _) rfl rfl rfl) rfl ⟨lt,lo,lt',lo',ta,ca,oa,co,c,tx,rfl,?_,?_,SM,DP⟩
 ·exact(K2.out.set RB (.inl rfl) _).set (RB.out.jB (i:=0) _) (.inl rfl) _
 ·exact(L2.out.setCell (by dsimp only;omega) _).setCell (by dsimp only;omega) _
variable {a b c W w:World}{P t B n i B':Nat}{x y v:Value}{f g f' g':Nat->Int}
theorem DV{row:Option Nat}(h:a.grownBy b (some P))(k:b.grownBy c row)(hr:∀j,row=some j->a.heap.size<=j):a.grownBy c (some P):=
 ⟨k.os.trans h.os,k.tape.trans h.tape,k.output.trans h.output,Nat.le_trans h.size k.size,fun j hj hne=>(k.block j (Nat.lt_of_lt_of_le hj h.size) (fun e=>by have:=hr j e.symm;omega)).trans (h.block j hj hne)⟩
theorem Ah.set1(h:Ah W P (.cells #[x,y] t))(v:Value):Ah (W.setCell ⟨P,1,none⟩ v) P (.cells #[x,v] t):=by
 unfold Ah at *;simp[World.setCell,Array.getElem?_modify,h]
theorem Ah.jQ(h:Ah W P (.cells #[x,y] t))(i:Nat):W.frozen? ⟨P,i,none⟩=false:=by
 unfold Ah at h;simp[World.frozen?,h]
theorem AL.alloc(h:AL w B v n f g)(o:Obj):AL (w.alloc o) B v n f g:=World.ownsRow.alloc h o
theorem MY(w:World)(x y:Int):Ba (w.alloc (.cells #[.int .i64 x,.int .i64 y] 117)) (some ⟨w,0,none⟩) 1 (fun _=>x) (fun _=>y):=fun _=>by
 obtain⟨h1,h2⟩:=Ah.two (Ah.new w (.cells #[.int .i64 x,.int .i64 y] 117));refine⟨w,0,rfl,by simp,fun i hi=>?_⟩;obtain rfl:i=0:=by omega
 exact⟨h1,h2⟩
def CS(l:List (Int×Int))(i:Nat):Int:=(l.getD i (0,0)).1
def CY(l:List (Int×Int))(i:Nat):Int:=(l.getD i (0,0)).2
theorem Pm{l:List (Int×Int)}{p:Int×Int}(h:i<l.length):CS (l++[p]) i=CS l i:=by
 simp[CS,List.getElem?_append_left h]
theorem Pt{l:List (Int×Int)}{p:Int×Int}(h:i<l.length):CY (l++[p]) i=CY l i:=by
 simp[CY,List.getElem?_append_left h]
theorem Pg(l:List (Int×Int))(p:Int×Int):CS (l++[p]) l.length=p.1:=by simp[CS]
theorem Pv(l:List (Int×Int))(p:Int×Int):CY (l++[p]) l.length=p.2:=by simp[CY]
theorem M9(hf:∀i,i<n->f i=f' i)(hg:∀i,i<n->g i=g' i):Cg f g n=Cg f' g' n:=by
 unfold Cg;apply List.map_congr_left;intro j hj;have hj':j<n*2:=List.mem_range.1 hj;have:j/2<n:=by omega
 unfold Dk;rw[hf _ this,hg _ this]
theorem AL.congr(h:AL w B v n f g)(hf:∀i,i<n->f i=f' i)(hg:∀i,i<n->g i=g' i):AL w B v n f' g':=by
 unfold AL at *;rw[<-M9 hf hg];exact h
def Bi(w:World)(B:Nat)(v:Value)(l:List (Int×Int)):Prop:=AL w B v l.length (CS l) (CY l)
theorem Bi.snoc{l:List (Int×Int)}{x y:Int}(h:AL w B v (l.length+1) (glue l.length (CS l) (fun _=>x)) (glue l.length (CY l) (fun _=>y))):Bi w B v (l++[(x,y)]):=by
 unfold Bi;rw[List.length_append];refine h.congr (fun i hi=>?_) (fun i hi=>?_)
 ·by_cases e:i<l.length
  ·simp only[glue,e,if_true];rw[Pm e]
  ·obtain rfl:i=l.length:=by have hi':i<l.length+1:=hi;omega
   rw[Pg];simp[glue]
 ·by_cases e:i<l.length
  ·simp only[glue,e,if_true];rw[Pt e]
  ·obtain rfl:i=l.length:=by have hi':i<l.length+1:=hi;omega
   rw[Pv];simp[glue]
theorem Bi.below{w':World}{l:List (Int×Int)}(h:Bi w B v l)(hb:Below w w w'):Bi w' B v l:=by
 refine⟨h.1,?_⟩;rcases h.2 with hn|⟨g,cap,cur,hv,hbg,hg,rest⟩
 ·exact .inl hn
 ·exact .inr ⟨g,cap,cur,hv,hbg,(hb.block g (Array.getElem?_eq_some_iff.1 hg).1).trans hg,rest⟩
theorem Bi.set{l:List (Int×Int)}(h:Bi w B v l)(hP:P<B)(i:Nat)(x:Value):Bi (w.setCell ⟨P,i,none⟩ x) B v l:=
 World.ownsRow.kept h (DG (Cr w P) i x) (Or.inr (fun e=>by have:=(World.ownsRow.lt h _ e).1;omega))
theorem Bi.low{l:List (Int×Int)}(h:Bi w B v l)(hB:B'<=B):Bi w B' v l:=by
 refine⟨h.1,?_⟩;rcases h.2 with hn|⟨g,cap,cur,hv,hb,rest⟩
 ·exact .inl hn
 ·exact .inr ⟨g,cap,cur,hv,by omega,rest⟩
theorem ownsRow_base_a{e size:Nat}{cs:List Value}(h:w.ownsRow B e size v n cs)(hB:B'<=B):w.ownsRow B' e size v n cs:=by
 refine⟨h.1,?_⟩;rcases h.2 with hn|⟨g,cap,cur,hv,hbg,rest⟩
 ·exact .inl hn
 ·exact .inr ⟨g,cap,cur,hv,Nat.le_trans hB hbg,rest⟩
theorem Je(h:a.grownBy b (some P))(k:Below b b c):a.grownBy c (some P):=
 ⟨k.os.trans h.os,k.tape.trans h.tape,k.output.trans h.output,Nat.le_trans h.size k.size,fun j hj hne=>(k.block j (Nat.lt_of_lt_of_le hj h.size)).trans (h.block j hj hne)⟩
theorem Ah.set0(h:Ah W P (.cells #[x,y] t))(v:Value):Ah (W.setCell ⟨P,0,none⟩ v) P (.cells #[v,y] t):=by
 unfold Ah at *;simp[World.setCell,Array.getElem?_modify,h]
def FX(base:Int)(f g:Nat->Int)(cat level:Int):Nat->List (Int×Int)×Bool
 |0=>([],level==base)
 |k+1=>
  let r:=FX base f g cat level k
  let q:=if !r.2&&decide (cat<=f k)then(r.1++[(cat,level)],true)else r
  (if f k=cat then q.1 else q.1++[(f k,g k)],q.2)
def EJ(base:Int)(n:Nat)(f g:Nat->Int)(cat level:Int):List (Int×Int):=
 let r:=FX base f g cat level n
 if r.2 then r.1 else r.1++[(cat,level)]
theorem VB(base:Int)(f g:Nat->Int)(cat level:Int)(k:Nat):(FX base f g cat level k).1.length<=2*k:=by
 induction k with
 |zero=>simp[FX]
 |succ k ih=>
  simp only[FX];split<;>split<;>(try simp only[List.length_append,List.length_singleton])<;>omega
def Il(l:List (Int×Int))(d:Bool)(cat level x:Int):List (Int×Int)×Bool:=if !d&&decide (cat<=x)then(l++[(cat,level)],true)else(l,d)
theorem Oe{base:Int}{f g:Nat->Int}{cat level:Int}{k:Nat}{l:List (Int×Int)}{d:Bool}(h:FX base f g cat level k=(l,d)):
 FX base f g cat level (k+1)=(if f k=cat then(Il l d cat level (f k)).1 else(Il l d cat level (f k)).1++[(f k,g k)],(Il l d cat level (f k)).2):=by
 simp only[FX,h,Il]
theorem Xf(l:List (Int×Int))(d:Bool)(cat level x:Int):(Il l d cat level x).1.length<=l.length+1:=by
 unfold Il;split<;>simp
theorem Gl(base:Int)(a:Option Addr)(n cap:Nat)(f g:Nat->Int)(cat level:Int)(w:World)(hn:n<=1048576)(hc:Ba w a n f g):
 Calls prog 40 #[.agg #[.int .i64 base,.slice a n cap],cat,.int .i64 level] w fun e w'=>∃va vc,e= .returned (.agg #[.int .i64 base,.slice va (EJ base n f g cat level).length vc])/\
  Bi w' w (.slice va (EJ base n f g cat level).length vc) (EJ base n f g cat level)/\Below w w w':=by
 have n3:No (.cells #[.int .i64 base,.slice none 0 0] 30):=⟨⟩;have n4:No (.cells #[.int .i64 base,.slice a n cap] 30):=⟨⟩;have n5:No (.cells #[.int .i64 0,.slice none 0 0] 30):=⟨⟩;have hb0:=(((Below.refl _ w).alloc nr n4).alloc (by simp) n5).alloc (by simp;omega) n3;have n1:Nw (((w.alloc n4).alloc n5).alloc n3):=⟨⟩;have X0:Ah n1 w n4:=((Ah.new w _).alloc _).alloc _;have Y0:Ah n1 (w.heap.size+1) n5:=by
  have:=(Ah.new (w.alloc n4) n5).alloc n3;simpa using this
 have Z0:Ah n1 (w.heap.size+1+1) n3:=by
  have:=Ah.new ((w.alloc n4).alloc n5) n3;simpa using this
 go_enter func40,ntmps40
 go_wp2;obtain⟨w4,hW0⟩:∃w4:World,n1=w4:=⟨_,rfl⟩;rw[hW0]at hb0 X0 Y0 Z0 ⊢;clear hW0;go_loopw [8,9] (fun d i wr=>∃(k:Nat) (v:Value),k<=n/\i= .int .i64 k/\d= .bool (FX base f g cat level k).2/\Ah wr (w.heap.size+1+1) (.cells #[.int .i64 base,v] 30)/\Bi wr w4 v (FX base f g cat level k).1/\w4.grownBy wr (some (w.heap.size+1+1))) (fun _ i _=>n-(intOf i).toNat)
 case atStart=>exact⟨0,_,Nat.zero_le _,rfl,rfl,Z0,AL.nil _ _ _ _,Cr _ _⟩
 case round=>
  obtain⟨k,v,hk,rfl,rfl,hZ,hO,hg⟩:=hrel;have lz:=Z0.lt;have r1:wr.cell? ⟨w,0,none⟩=some (.int .i64 base):=(Ci hg X0.lt (by omega)).trans X0.two.1;have r2:wr.cell? ⟨w,1,none⟩=some (.slice a n cap):=(Ci hg X0.lt (by omega)).trans X0.two.2;obtain⟨r3,r4⟩:=hZ.two;have hf1:=hZ.jQ 1;have lens:=VB base f g cat level k;have hw4:=hg.size;by_cases hlt':k<n
  ·obtain⟨b,off,rfl,hlt,hcc⟩:=hc (by omega);have hbl:b<w4.heap.size:=Nat.lt_of_lt_of_le hlt hb0.size;have g1:wr.cell? ⟨b,off+k*2,none⟩=some (.int .i64 (f k)):=(Ci hg hbl (by omega)).trans ((hb0.cell (p:=⟨b,_,none⟩) hlt).trans (hcc k hlt').1);have g2:wr.cell? ⟨b,off+k*2+1,none⟩=some (.int .i64 (g k)):=(Ci hg hbl (by omega)).trans ((hb0.cell (p:=⟨b,_,none⟩) hlt).trans (hcc k hlt').2);have HC1:Hid (w4.cell? ⟨b,off+k*2,none⟩=some (.int .i64 (f k))):=(hb0.cell (p:=⟨b,_,none⟩) hlt).trans (hcc k hlt').1;have HC2:Hid (w4.cell? ⟨b,off+k*2+1,none⟩=some (.int .i64 (g k))):=(hb0.cell (p:=⟨b,_,none⟩) hlt).trans (hcc k hlt').2;have i0:(0:Int)<=(k:Int):=(by omega);have i1:(k:Int)<(n:Int):=(by omega);generalize hR:FX base f g cat level k=r at *;obtain⟨l,d⟩:=r;dsimp only at hO lens ⊢;have HO:Hid (Bi wr w4 v l):=hO;have HR:Hid (FX base f g cat level k=(l,d)):=hR;have zz:w.heap.size+1+1<wr.heap.size:=hZ.lt;have HNE:Hid (some (w.heap.size+1+1)≠v.ownBlock):=fun e=>by have:=(World.ownsRow.lt HO _ e.symm).1;omega
   clear hcc hO hR;obtain⟨tb,htb⟩:∃tb,tb=(!d&&decide (cat<=f k)):=⟨_,rfl⟩;have HTB:Hid (tb=(!d&&decide (cat<=f k))):=htb;clear htb;go_upto_region 6 with fail
   go_cut[35] (fun t wc=>t= .bool tb/\wc=wr)
   case first=>
    cases d with
    |true=>
     go_wp2_with fail
     go_meet;case rel=>exact⟨by rw[HTB.out];rfl,rfl⟩
    |false=>
     go_wp2_with fail
     go_meet;case rel=>exact⟨by rw[HTB.out];rfl,rfl⟩
   case rest=>
    obtain⟨rfl,rfl⟩:=hcut;go_upto_if 35 with fail
    go_cut[8] (fun dd wc=>∃v1:Value,dd= .bool (Il l d cat level (f k)).2/\Ah wc (w.heap.size+1+1) (.cells #[.int .i64 base,v1] 30)/\Bi wc w4 v1 (Il l d cat level (f k)).1/\w4.grownBy wc (some (w.heap.size+1+1)))
    case first=>
     cases tb with
     |true=>
      have HP:Hid (Il l d cat level (f k)=(l++[(cat,level)],true)):=by
       show _=_;unfold Il;rw[if_pos HTB.out.symm]
      go_wp2_with(at_builtin;refine Hd _ rfl _ _ rfl w4 _ _ _ _ rfl (AL.alloc HO _) _ 1 1 (fun _=>cat) (fun _=>level) rfl (MY _ _ _) (by omega) (by simp;omega) ?_;intro a' c' w' hown' hgrow' hat';have hZ':=(hZ.alloc (.cells #[cat,.int .i64 level] 117)).grown hgrow' (HNE);obtain⟨p1,p2⟩:=hZ'.two;have pf:=hZ'.jQ 1)
      go_meet;case rel=>
       have hgN:w4.grownBy w' (some (w.heap.size+1+1)):=DV (DV hg (World.grownBy_alloc _ _ none) (fun j e=>by cases e)) hgrow' (fun j e=>(World.ownsRow.lt HO j e).1);refine⟨_,by rw[HP.out],hZ'.set1 _,?_,DG hgN _ _⟩;rw[HP.out];have hs:=Bi.snoc hown';exact World.ownsRow.kept hs (DG (Cr w' _) _ _) (Or.inr (fun e=>by have:=(World.ownsRow.lt hs _ e).1;omega))
     |false=>
      have HP:Hid (Il l d cat level (f k)=(l,d)):=by
       show _=_;unfold Il;rw[if_neg (by rw[<-HTB.out];simp)]
      go_wp2_with fail
      go_meet;case rel=>exact⟨v,by rw[HP.out],hZ,by rw[HP.out];exact HO.out,hg⟩
    case rest=>
     obtain⟨v1,rfl,hZ1,hO1,hg1⟩:=hcut;have y1:wc.cell? ⟨w,0,none⟩=some (.int .i64 base):=(Ci hg1 X0.lt (by omega)).trans X0.two.1;have y2:wc.cell? ⟨w,1,none⟩=some (.slice (some ⟨b,off,none⟩) n cap):=(Ci hg1 X0.lt (by omega)).trans X0.two.2;obtain⟨y3,y4⟩:=hZ1.two;have yf:=hZ1.jQ 1;have e1:wc.cell? ⟨b,off+k*2,none⟩=some (.int .i64 (f k)):=(Ci hg1 hbl (by omega)).trans HC1.out;have e2:wc.cell? ⟨b,off+k*2+1,none⟩=some (.int .i64 (g k)):=(Ci hg1 hbl (by omega)).trans HC2.out;have hs1:=hg1.size;have lenq:=Xf l d cat level (f k);have HO1:Hid (Bi wc w4 v1 (Il l d cat level (f k)).1):=hO1;have HR1:Hid (FX base f g cat level (k+1)=(if f k=cat then(Il l d cat level (f k)).1 else(Il l d cat level (f k)).1++[(f k,g k)],(Il l d cat level (f k)).2)):=Oe HR.out;generalize Il l d cat level (f k)=q at *;obtain⟨l1,d1⟩:=q;dsimp only at lenq ⊢;clear g1 g2 r1 r2 r3 r4 hf1 hZ hg HTB HNE HO hO1 HR;by_cases t:f k=cat
     ·have t':(f k != cat)=false:=(by simpa using t);have HT:Hid (f k=cat):=t;clear t;go_wp2;go_roundw;case rel=>
       exact⟨k+1,v1,by omega,by go_num,by rw[HR1.out],hZ1,by rw[HR1.out,if_pos HT.out];exact HO1.out,hg1⟩
      case measure=>simp[intOf];omega
     ·have t':(f k != cat)=true:=(by simpa using t);have HT:Hid (¬f k=cat):=t;have n2:Nw (wc.alloc (.cells #[.int .i64 (f k),.int .i64 (g k)] 117)):=⟨⟩;have HOa:AL ((n2:World).drew) w4 v1 l1.length (CS l1) (CY l1):=AL.alloc HO1 _;have HOC:Ba ((n2:World).drew) (some ⟨wc,0,none⟩) 1 (fun _=>f k) (fun _=>g k):=(MY wc (f k) (g k)).below (Below.refl _ _).drew;have hbs:w4.heap.size<=((n2:World).drew).heap.size:=(by show w4.heap.size<=(wc.alloc _).heap.size;simp;omega);have HNE:Hid (some (w.heap.size+1+1)≠v1.ownBlock):=fun e=>by have:=(World.ownsRow.lt HO1 _ e.symm).1;omega
      have zz:w.heap.size+1+1<wc.heap.size:=hZ1.lt;have zb:b<wc.heap.size:=(by omega);have zn:w.heap.size<wc.heap.size:=(by omega);have hZd:Ah ((n2:World).drew) (w.heap.size+1+1) (.cells #[.int .i64 base,v1] 30):=hZ1.alloc _;clear t;go_wp2_with fail
      go_region_law((refine Fb _ (by rfl) _ _ (by rfl) w4 v1 _ _ _ (by rfl) HOa _ 1 1 (fun _=>f k) (fun _=>g k) (by rfl) HOC (by omega) hbs ?_;intro a' c' w' hown' hgrow' hat';have hZ':=Ah.grown hZd hgrow' (HNE);obtain⟨p1,p2⟩:=hZ'.two;have pf:=hZ'.jQ 1))
      all_goals
       clear HOa HOC hbs hZd;go_wp2;go_roundw;case rel=>
        have hgd:w4.grownBy n2 (some (w.heap.size+1+1)):=DV hg1 (World.grownBy_alloc _ _ none) (fun j e=>by cases e);have hge:w4.grownBy (n2:World).drew (some (w.heap.size+1+1)):=⟨hgd.os,hgd.tape,hgd.output,hgd.size,hgd.block⟩;have hgN:w4.grownBy w' (some (w.heap.size+1+1)):=DV hge hgrow' (fun j e=>(World.ownsRow.lt HO1 j e).1);have hs:=Bi.snoc hown';exact⟨k+1,_,by omega,by go_num,by rw[HR1.out],hZ'.set1 _,by rw[HR1.out,if_neg HT.out];exact World.ownsRow.kept hs (DG (Cr w' _) _ _) (Or.inr (fun e=>by have:=(World.ownsRow.lt hs _ e).1;omega)),DG hgN _ _⟩
       case measure=>simp[intOf];omega
  ·have e:k=n:=(by omega);subst e;clear hc;generalize hR:FX base f g cat level k=r at *;obtain⟨l,d⟩:=r;dsimp only at hO lens ⊢;have HO:Hid (Bi wr w4 v l):=hO;have y0:wr.cell? ⟨w.heap.size+1,0,none⟩=some (.int .i64 0):=(Ci hg Y0.lt (by omega)).trans Y0.two.1;have y1:wr.cell? ⟨w.heap.size+1,1,none⟩=some (.slice none 0 0):=(Ci hg Y0.lt (by omega)).trans Y0.two.2;have fz0:wr.frozen? ⟨w.heap.size+1,0,none⟩=false:=(GC hg Y0.lt (by omega)).trans (Y0.jQ 0);have fz1:wr.frozen? ⟨w.heap.size+1,1,none⟩=false:=(GC hg Y0.lt (by omega)).trans (Y0.jQ 1);have LW:Below w w wr:=hb0.grown hg hb0.size (fun j e=>by cases e;omega);have zz:w.heap.size+1+1<wr.heap.size:=hZ.lt;have HNE:Hid (some (w.heap.size+1+1)≠v.ownBlock):=fun e=>by have:=(World.ownsRow.lt HO _ e.symm).1;omega
   cases d with
   |true=>
    have HF:Hid (EJ base k f g cat level=l):=(by show _=_;simp[EJ,hR]);obtain⟨va,vc,rfl⟩:=AL.shape hO;clear hR hO;go_wp2;refine bodyPost_ret (v:= .agg #[.int .i64 base,.slice va l.length vc]) (by simp[results,Tryz.results40,go_sem, *]) rfl ⟨va,vc,by rw[HF.out],?_,?_⟩
    ·rw[HF.out];have hs:=HO.out;have h1:=World.ownsRow.kept hs (DG (DG (Cr wr (w.heap.size+1)) 0 (.int .i64 base)) 1 (.slice va l.length vc)) (Or.inr (fun e=>by have:=(World.ownsRow.lt hs _ e).1;omega));exact ownsRow_base_a h1 (by have:=hb0.size;omega)
    ·exact(LW.setCell (by dsimp only;omega) _).setCell (by dsimp only;omega) _
   |false=>
    have HF:Hid (EJ base k f g cat level=l++[(cat,level)]):=(by show _=_;simp[EJ,hR]);have hYr:Ah wr (w.heap.size+1) (.cells #[.int .i64 0,.slice none 0 0] 30):=Y0.grown hg (by simp);have HNE1:Hid (some (w.heap.size+1)≠v.ownBlock):=fun e=>by have:=(World.ownsRow.lt HO _ e.symm).1;omega
    clear hR hO;have n6:No (.cells #[cat,.int .i64 level] 117):=⟨⟩;go_wp2_with(at_builtin;refine Hd _ rfl _ _ rfl w4 _ _ _ _ rfl (AL.alloc HO _) _ 1 1 (fun _=>cat) (fun _=>level) rfl (MY _ _ _) (by omega) (by simp;omega) ?_;intro a' c' w' hown' hgrow' hat';have hZ':=(hZ.alloc n6).grown hgrow' (HNE);obtain⟨p1,p2⟩:=hZ'.two;have pf:=hZ'.jQ 1;have hY':=(hYr.alloc n6).grown hgrow' (HNE1);obtain⟨s1,s2⟩:=hY'.two;have sf0:=hY'.jQ 0;have sf1:=hY'.jQ 1)
    have hlen:(l++[(cat,level)]).length=l.length+1:=(by simp);have LW':Below w w w':=(LW.alloc (by omega) _).grown hgrow' (by simp;omega) (fun j e=>by have:=(World.ownsRow.lt HO j e).1;have:=hb0.size;omega);refine bodyPost_ret (v:= .agg #[.int .i64 base,.slice a' (l.length+1) c']) (by simp[results,Tryz.results40,go_sem, *]) rfl ⟨a',c',by rw[HF.out,hlen],?_,?_⟩
    ·rw[HF.out,hlen];have hs:=Bi.snoc hown';have h0:=World.ownsRow.kept hs (DG (Cr w' (w.heap.size+1+1)) 1 (.slice a' (l.length+1) c')) (Or.inr (fun e=>by have:=(World.ownsRow.lt hs _ e).1;omega));have h1:=World.ownsRow.kept h0 (DG (DG (Cr _ (w.heap.size+1)) 0 (.int .i64 base)) 1 (.slice a' (l.length+1) c')) (Or.inr (fun e=>by have:=(World.ownsRow.lt h0 _ e).1;omega));exact ownsRow_base_a h1 (by have:=hb0.size;omega)
    ·exact((LW'.setCell (by dsimp only;omega) _).setCell (by dsimp only;omega) _).setCell (by dsimp only;omega) _
end Go.Proofs.YtefoofaocbjdoaaGreatDoor
