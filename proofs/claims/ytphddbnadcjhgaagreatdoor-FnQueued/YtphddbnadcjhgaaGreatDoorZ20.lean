import Derived.Test.YtphddbnadcjhgaaGreatDoorNE2
import Derived.Test.YtphddbnadcjhgaaGreatDoorHE
import Derived.Test.YtphddbnadcjhgaaGreatDoorZ6
import Derived.Test.YtphddbnadcjhgaaGreatDoorKB10
import Derived.Test.YtphddbnadcjhgaaGreatDoorZ3
import Derived.Test.YtphddbnadcjhgaaGreatDoorZ0
import Derived.Test.YtphddbnadcjhgaaGreatDoorZ5
import Derived.Maps.OwnOps
import Derived.Test.YtphddbnadcjhgaaGreatDoorZ7
set_option maxRecDepth 100000
set_option maxHeartbeats 16000000
namespace Go.Proofs.YtphddbnadcjhgaaGreatDoor
open Go Go.RowKit Go.Deep Go.Maps Go.BigFrame Go.Shelf Go.Proofs.Tryz
inductive FM(lt:List Ac) (lo:List Ab) (s:Al) (c:Int) (tx:ByteArray) (lt':List Ac) (lo':List Ab):Prop
 |form (h:s.ok=false) (hc:c=2) (ht:tx=⟨#[]⟩) (e1:lt'=lt) (e2:lo'=lo)
 |thread (h:s.ok=true) (hn:PN lt s.th=none) (hc:c=3) (ht:tx=⟨#[]⟩) (e1:lt'=lt) (e2:lo'=lo)
 |act (h:s.ok=true) (t:Nat) (ht:t<lt.length) (hn:PN lt s.th=some t) (p:FZ lt[t] s lt lo t c tx lt' lo')
theorem Bz.form{w:World}{B n m ca co:Nat}{ta oa:Option Addr}{lt:List Ac}{lo:List Ab}(h:Bz w B (.slice ta n ca) (.slice oa m co) lt lo)(h1:0<lt.length)(h2:0<lo.length):∃g q,ta=some ⟨g,0,none⟩/\oa=some ⟨q,0,none⟩:=by
 obtain⟨rfl,rfl⟩:=h.len;obtain⟨g,_,_,e,_⟩:=CM h.t h1;obtain⟨q,_,_,e',_⟩:=CM h.o h2;exact⟨g,q,e,e'⟩
theorem KC{k:Aq}(ok:AZ k=true):k.small:=by
 obtain⟨h1,h2,_⟩:=BD ok;have t:=Cp h1;have o:=Bv h2;refine⟨⟨by omega,fun i hi=>?_⟩,by omega,fun i hi=>?_⟩
 ·have h:=t.2.2 i hi;unfold Dq at h;simp only[Bool.and_eq_true]at h;exact(Hh.1 h.1).small
 ·have h:=o.2.2.1 i hi;unfold Fe at h;simp only[Bool.and_eq_true]at h;have f:=Ii.1 h.1;have it:=f.items;unfold Dt at it;simp only[Bool.and_eq_true,decide_eq_true_eq,List.all_eq_true,List.mem_range]at it;refine⟨by have:=(BQ f.l1).2;omega,by have:=FC f.data;omega,⟨by omega,fun j hj=>?_⟩,by have:=Ja f.own;omega,by have:=(BQ f.l2).2;omega⟩;have:=FC (it.2 j hj);omega
theorem Nb{k:Aq}{lt:List Ac}{lo:List Ab}{ta oa:Option Addr}{ca co:Nat}(h:k.same (Ck ta ca oa co lt lo))(x:Int):Bg (fun i=>(k.T i).id) k.tn x=PN lt x:=by
 unfold PN;have e:lt.length=k.tn:=h.1;rw[e];exact(Gy (fun i hi=>(h.2.1 i hi).1) x).symm
theorem Qr{k:Aq}{lt:List Ac}{lo:List Ab}{ta oa:Option Addr}{ca co:Nat}(h:k.same (Ck ta ca oa co lt lo)):k.same (Ck none 0 none 0 lt lo):=h
theorem Ts(k:Aq)(w:World)(hk:k.at w)(ok:AZ k=true)(s:Al)(hs:s.at w):
 Calls prog 18 #[.agg #[.slice k.ta k.tn k.tk,.slice k.oa k.on k.ok],.agg #[s.th,s.kind,s.id,s.to,s.cat,.string s.data,s.b1,.slice s.c1.a s.c1.n s.c1.k,s.b2,.slice s.c2.a s.c2.n s.c2.k]] w fun e w'=>∃(lt:List Ac) (lo:List Ab) (lt':List Ac) (lo':List Ab) (ta:Option Addr) (ca:Nat) (oa:Option Addr) (co:Nat) (c:Int) (tx:ByteArray),e= .returned (.tuple #[.agg #[.slice ta lt'.length ca,.slice oa lo'.length co],.int .i64 c,.string tx])/\Bz w' w (.slice ta lt'.length ca) (.slice oa lo'.length co) lt' lo'/\Below w w w'/\k.same (Ck none 0 none 0 lt lo)/\FM lt lo s c tx lt' lo':=by
 have n2:Na #[s.th,s.kind,s.id,s.to,s.cat,.string s.data,s.b1,.slice s.c1.a s.c1.n s.c1.k,s.b2,.slice s.c2.a s.c2.n s.c2.k]:=⟨⟩;have n4:No (.cells #[.slice k.ta k.tn k.tk,.slice k.oa k.on k.ok] 27):=⟨⟩;have n5:No (.cells #[.slice none 0 0,.slice none 0 0] 27):=⟨⟩;have n1:Nw (((w.alloc n4).alloc (.cells n2 32)).alloc n5):=⟨⟩;have b0:Below w w n1:=(((Below.refl _ w).alloc (Nat.le_refl _) _).alloc (by simp) _).alloc (by simp;omega) _;have A0:Ah n1 w n4:=((Ah.new w _).alloc _).alloc _;have P0:Ah n1 (w.heap.size+1) (.cells n2 32):=by have:=(Ah.new (w.alloc n4) (.cells n2 32)).alloc n5;simpa using this
 have R0:Ah n1 (w.heap.size+1+1) n5:=by have:=Ah.new ((w.alloc n4).alloc (.cells n2 32)) n5;simpa using this
 have HK:=hid hk;have OK:=hid ok;have SA:=hid hs;have HB:=hid b0;have HA:=hid A0;have HP:=hid P0;have HR:=hid R0;have sm:=KC ok;have SMA:=hid sm;clear b0 A0 P0 R0 hk ok hs sm;go_enter func18,ntmps18
 obtain⟨x0,x1⟩:=HA.out.two;obtain⟨s0,s1,s2,s3,s4,s5,s6,s7,s8,s9⟩:=HP.out.ten;go_wp2_with fail
 have BX:Hid (∀W,Below (n1:World).heap.size n1 W->Ah W w n4/\Ah W (w.heap.size+1) (.cells n2 32)/\Ah W (w.heap.size+1+1) n5):=hid (fun W hW=>⟨HA.out.below hW,HP.out.below hW,HR.out.below hW⟩);have LW:Hid (∀W,Below (n1:World).heap.size n1 W->Below w w W):=hid (fun W hW=>Af HB hW);have V0:=hid (Below.refl (n1:World).heap.size n1);have S0:=hid HB.out.size;clear x0 x1 s0 s1 s2 s3 s4 s5 s6 s7 s8 s9 HA HP HR HB;generalize (n1:World)=V at *;refine(Sn k V (HK.out.below (LW _ V0)) SMA).mono ?_;rintro e w1 ⟨lt,lo,ta,oa,ca,co,rfl,ks,sm,hb1⟩;have V1:=hid (Af V0 hb1);have SM:=hid (Qr sm);have OKL:Hid (okL lt lo=true):=hid ((Cc sm).trans OK);have TS:Hid (Bg (fun i=>(k.T i).id) k.tn s.th=PN lt s.th):=hid (Nb sm s.th);obtain⟨g,q,rfl,rfl⟩:=ks.form (by have:=Fl OKL.out;omega) (by have:=El OKL.out;omega);have KS1:=hid ks;clear hb1 sm ks V0;have n3:No (.cells #[.slice (some ⟨g,0,none⟩) lt.length ca,.slice (some ⟨q,0,none⟩) lo.length co] 27):=⟨⟩;have V2:=hid (V1.out.alloc V1.out.size n3);have O2:=hid (Ah.new w1 n3);have KS2:=hid (KS1.out.below ((Below.refl _ w1).alloc (Nat.le_refl _) n3));clear KS1;obtain⟨x0,x1⟩:=(BX _ V2).1.two;obtain⟨s0,s1,s2,s3,s4,s5,s6,s7,s8,s9⟩:=(BX _ V2).2.1.ten;obtain⟨r0,r1⟩:=(BX _ V2).2.2.two;have rf:=(BX _ V2).2.2.warm;go_wp2_with fail
 clear x0 x1 s0 s1 s2 s3 s4 s5 s6 s7 s8 s9 r0 r1 rf;clear V1;generalize w1.alloc n3=W2 at *;generalize w1.heap.size=O at *;have SS:Hid (Calls prog 50 #[.agg n2] W2 fun e w'=>e= .returned (.bool s.ok)/\Below W2 W2 w'):=hid (by
  have h:=SA.out.below (LW _ V2);exact Pw s.th s.kind s.id s.to s.cat s.data s.b1 s.c1.a s.c1.n s.c1.k s.c1.f s.c1.g s.b2 s.c2.a s.c2.n s.c2.k s.c2.f s.c2.g W2 h.2.2 h.1.1 h.2.1.1 h.1.2 h.2.1.2)
 refine SS.out.mono ?_;rintro e w3 ⟨rfl,hb3⟩;have V3:=hid (Af V2 hb3);have KS3:=hid (KS2.out.below hb3);have O3:=hid (O2.out.below hb3);clear hb3 SS V2 O2 KS2;have L3:=hid (LW.out _ V3);obtain⟨x0,x1⟩:=(BX _ V3).1.two;obtain⟨s0,s1,s2,s3,s4,s5,s6,s7,s8,s9⟩:=(BX _ V3).2.1.ten;obtain⟨r0,r1⟩:=(BX _ V3).2.2.two;have rf:=(BX _ V3).2.2.warm;obtain⟨u0,u1⟩:=O3.out.two;cases so:s.ok with
 |false=>
  have SO:=hid so;go_wp2;have RB:=hid (BX.out _ V3).2.2;refine bodyPost_ret (Aj _ _ (w.heap.size+1+1) 4 _ _ _ _ Tryz.results18 ((RB.out.setAt (i:=0) _).setAt (i:=1) _) rfl rfl rfl) rfl ⟨lt,lo,lt,lo,(some ⟨g,0,none⟩),ca,(some ⟨q,0,none⟩),co,2,_,rfl,?_,?_,SM,.form SO rfl rfl rfl rfl⟩
  ·exact((KS3.out.base S0).set RB (.inl rfl) _).set (RB.out.setAt (i:=0) _) (.inl rfl) _
  ·exact(L3.out.setCell (by dsimp only;omega) _).setCell (by dsimp only;omega) _
 |true=>
  have SO:=hid so;clear so;go_wp2_with fail
  refine(Hl k s.th w3 (HK.out.below L3)).mono ?_;rintro e w4 ⟨rfl,hb4⟩;rw[TS.out];have V4:=hid (Af V3 hb4);have KS4:=hid (KS3.out.below hb4);have O4:=hid (O3.out.below hb4);clear hb4 V3 KS3 O3 x0 x1 s0 s1 s2 s3 s4 s5 s6 s7 s8 s9 r0 r1 rf u0 u1 L3;have L3:=hid (LW.out _ V4);obtain⟨x0,x1⟩:=(BX _ V4).1.two;obtain⟨s0,s1,s2,s3,s4,s5,s6,s7,s8,s9⟩:=(BX _ V4).2.1.ten;obtain⟨r0,r1⟩:=(BX _ V4).2.2.two;have rf:=(BX _ V4).2.2.warm;obtain⟨u0,u1⟩:=O4.out.two;cases hn:PN lt s.th with
  |none=>
   have HN:=hid hn;simp only[FV];have j0:decide (((-1:Int))<0)=true:=rfl;go_wp2;have RB:=hid (BX.out _ V4).2.2;refine bodyPost_ret (Aj _ _ (w.heap.size+1+1) 4 _ _ _ _ Tryz.results18 ((RB.out.setAt (i:=0) _).setAt (i:=1) _) rfl rfl rfl) rfl ⟨lt,lo,lt,lo,(some ⟨g,0,none⟩),ca,(some ⟨q,0,none⟩),co,3,_,rfl,?_,?_,SM,.thread SO HN rfl rfl rfl rfl⟩
   ·exact((KS4.out.base S0).set RB (.inl rfl) _).set (RB.out.setAt (i:=0) _) (.inl rfl) _
   ·exact(L3.out.setCell (by dsimp only;omega) _).setCell (by dsimp only;omega) _
  |some t=>
   have HT:=hid hn;have ht:t<lt.length:=(AE hn).1;clear hn;simp only[FV];have j0:decide (((t:Nat):Int)<0)=false:=decide_eq_false (by omega);have j1:¬((t:Nat):Int)<0:=(by omega);obtain⟨w3,e3⟩:∃W,W=w4:=⟨_,rfl⟩;subst e3;have KS3:=KS4;clear KS4;have SZ3:Hid (V.heap.size<=w3.heap.size):=hid V4.out.size;have SA3:Hid (∀W,Below V w3 W->s.at W):=hid (fun W hW=>SA.out.below (L3.out.trans (hW.mono S0)));have RR:Hid (∀W,Below V w3 W->Ah W (w.heap.size+1+1) (.cells #[.slice none 0 0,.slice none 0 0] 27)):=hid (fun W hW=>(BX _ (V4.out.trans hW)).2.2);have sk:=(Nl SO).kind;have cs:(s.kind=1∨s.kind=12∨s.kind=14)∨(s.kind=2∨s.kind=3∨s.kind=4∨s.kind=5)∨s.kind=11∨(s.kind=6∨s.kind=7∨s.kind=8∨s.kind=9∨s.kind=10∨s.kind=13∨s.kind=15):=(by omega);have KIND:=hid cs;clear sk cs;rcases KIND with hk|hk|hk|hk
   ·have HKD:=hid hk;rcases hk with hk|hk|hk
    ·skip;have k1:(s.kind==1)=true:=(by rw[hk];rfl);have d1:decide (s.kind=1)=true:=(by rw[hk];rfl);have k12:(s.kind==12)=false:=(by rw[hk];rfl);have d12:decide (s.kind=12)=false:=(by rw[hk];rfl);have k14:(s.kind==14)=false:=(by rw[hk];rfl);have d14:decide (s.kind=14)=false:=(by rw[hk];rfl);have k2:(s.kind==2)=false:=(by rw[hk];rfl);have d2:decide (s.kind=2)=false:=(by rw[hk];rfl);have k3:(s.kind==3)=false:=(by rw[hk];rfl);have d3:decide (s.kind=3)=false:=(by rw[hk];rfl);have k4:(s.kind==4)=false:=(by rw[hk];rfl);have d4:decide (s.kind=4)=false:=(by rw[hk];rfl);have k5:(s.kind==5)=false:=(by rw[hk];rfl);have d5:decide (s.kind=5)=false:=(by rw[hk];rfl);have k11:(s.kind==11)=false:=(by rw[hk];rfl);have d11:decide (s.kind=11)=false:=(by rw[hk];rfl);clear hk;have AC:=hid (M7 lt lo g ca q co V w3 KS3 SZ3 OKL t ht s SA3 SO HKD);go_wp2_with fail
     refine AC.out.mono ?_;rintro e w5 ⟨lt',lo',ta,ca',oa,co',c,tx,rfl,k5,b5,p5⟩;have K5:=hid k5;have B5:=hid b5;have P5:=hid p5;clear k5 b5 p5 AC x0 x1 s0 s1 s2 s3 s4 s5 s6 s7 s8 s9 r0 r1 rf u0 u1;have RB:=hid (RR.out _ B5);have L5:=hid (L3.out.trans (B5.out.mono S0));obtain⟨r0,r1⟩:=RB.out.two;have rf:=RB.out.warm;go_wp2;refine bodyPost_ret (Aj _ _ (w.heap.size+1+1) 4 _ _ _ _ Tryz.results18 ((RB.out.setAt (i:=0) _).setAt (i:=1) _) rfl rfl rfl) rfl ⟨lt,lo,lt',lo',ta,ca',oa,co',c,tx,rfl,?_,?_,SM,.act SO t ht HT P5⟩
     ·exact((K5.out.base S0).set RB (.inl rfl) _).set (RB.out.setAt (i:=0) _) (.inl rfl) _
     ·exact(L5.out.setCell (by dsimp only;omega) _).setCell (by dsimp only;omega) _
    ·skip;have k1:(s.kind==1)=false:=(by rw[hk];rfl);have d1:decide (s.kind=1)=false:=(by rw[hk];rfl);have k12:(s.kind==12)=true:=(by rw[hk];rfl);have d12:decide (s.kind=12)=true:=(by rw[hk];rfl);have k14:(s.kind==14)=false:=(by rw[hk];rfl);have d14:decide (s.kind=14)=false:=(by rw[hk];rfl);have k2:(s.kind==2)=false:=(by rw[hk];rfl);have d2:decide (s.kind=2)=false:=(by rw[hk];rfl);have k3:(s.kind==3)=false:=(by rw[hk];rfl);have d3:decide (s.kind=3)=false:=(by rw[hk];rfl);have k4:(s.kind==4)=false:=(by rw[hk];rfl);have d4:decide (s.kind=4)=false:=(by rw[hk];rfl);have k5:(s.kind==5)=false:=(by rw[hk];rfl);have d5:decide (s.kind=5)=false:=(by rw[hk];rfl);have k11:(s.kind==11)=false:=(by rw[hk];rfl);have d11:decide (s.kind=11)=false:=(by rw[hk];rfl);clear hk;have AC:=hid (M7 lt lo g ca q co V w3 KS3 SZ3 OKL t ht s SA3 SO HKD);go_wp2_with fail
     refine AC.out.mono ?_;rintro e w5 ⟨lt',lo',ta,ca',oa,co',c,tx,rfl,k5,b5,p5⟩;have K5:=hid k5;have B5:=hid b5;have P5:=hid p5;clear k5 b5 p5 AC x0 x1 s0 s1 s2 s3 s4 s5 s6 s7 s8 s9 r0 r1 rf u0 u1;have RB:=hid (RR.out _ B5);have L5:=hid (L3.out.trans (B5.out.mono S0));obtain⟨r0,r1⟩:=RB.out.two;have rf:=RB.out.warm;go_wp2;refine bodyPost_ret (Aj _ _ (w.heap.size+1+1) 4 _ _ _ _ Tryz.results18 ((RB.out.setAt (i:=0) _).setAt (i:=1) _) rfl rfl rfl) rfl ⟨lt,lo,lt',lo',ta,ca',oa,co',c,tx,rfl,?_,?_,SM,.act SO t ht HT P5⟩
     ·exact((K5.out.base S0).set RB (.inl rfl) _).set (RB.out.setAt (i:=0) _) (.inl rfl) _
     ·exact(L5.out.setCell (by dsimp only;omega) _).setCell (by dsimp only;omega) _
    ·skip;have k1:(s.kind==1)=false:=(by rw[hk];rfl);have d1:decide (s.kind=1)=false:=(by rw[hk];rfl);have k12:(s.kind==12)=false:=(by rw[hk];rfl);have d12:decide (s.kind=12)=false:=(by rw[hk];rfl);have k14:(s.kind==14)=true:=(by rw[hk];rfl);have d14:decide (s.kind=14)=true:=(by rw[hk];rfl);have k2:(s.kind==2)=false:=(by rw[hk];rfl);have d2:decide (s.kind=2)=false:=(by rw[hk];rfl);have k3:(s.kind==3)=false:=(by rw[hk];rfl);have d3:decide (s.kind=3)=false:=(by rw[hk];rfl);have k4:(s.kind==4)=false:=(by rw[hk];rfl);have d4:decide (s.kind=4)=false:=(by rw[hk];rfl);have k5:(s.kind==5)=false:=(by rw[hk];rfl);have d5:decide (s.kind=5)=false:=(by rw[hk];rfl);have k11:(s.kind==11)=false:=(by rw[hk];rfl);have d11:decide (s.kind=11)=false:=(by rw[hk];rfl);clear hk;have AC:=hid (M7 lt lo g ca q co V w3 KS3 SZ3 OKL t ht s SA3 SO HKD);go_wp2_with fail
     refine AC.out.mono ?_;rintro e w5 ⟨lt',lo',ta,ca',oa,co',c,tx,rfl,k5,b5,p5⟩;have K5:=hid k5;have B5:=hid b5;have P5:=hid p5;clear k5 b5 p5 AC x0 x1 s0 s1 s2 s3 s4 s5 s6 s7 s8 s9 r0 r1 rf u0 u1;have RB:=hid (RR.out _ B5);have L5:=hid (L3.out.trans (B5.out.mono S0));obtain⟨r0,r1⟩:=RB.out.two;have rf:=RB.out.warm;go_wp2;refine bodyPost_ret (Aj _ _ (w.heap.size+1+1) 4 _ _ _ _ Tryz.results18 ((RB.out.setAt (i:=0) _).setAt (i:=1) _) rfl rfl rfl) rfl ⟨lt,lo,lt',lo',ta,ca',oa,co',c,tx,rfl,?_,?_,SM,.act SO t ht HT P5⟩
     ·exact((K5.out.base S0).set RB (.inl rfl) _).set (RB.out.setAt (i:=0) _) (.inl rfl) _
     ·exact(L5.out.setCell (by dsimp only;omega) _).setCell (by dsimp only;omega) _
   ·have HKD:=hid hk;rcases hk with hk|hk|hk|hk
    ·skip;have k1:(s.kind==1)=false:=(by rw[hk];rfl);have d1:decide (s.kind=1)=false:=(by rw[hk];rfl);have k12:(s.kind==12)=false:=(by rw[hk];rfl);have d12:decide (s.kind=12)=false:=(by rw[hk];rfl);have k14:(s.kind==14)=false:=(by rw[hk];rfl);have d14:decide (s.kind=14)=false:=(by rw[hk];rfl);have k2:(s.kind==2)=true:=(by rw[hk];rfl);have d2:decide (s.kind=2)=true:=(by rw[hk];rfl);have k3:(s.kind==3)=false:=(by rw[hk];rfl);have d3:decide (s.kind=3)=false:=(by rw[hk];rfl);have k4:(s.kind==4)=false:=(by rw[hk];rfl);have d4:decide (s.kind=4)=false:=(by rw[hk];rfl);have k5:(s.kind==5)=false:=(by rw[hk];rfl);have d5:decide (s.kind=5)=false:=(by rw[hk];rfl);have k11:(s.kind==11)=false:=(by rw[hk];rfl);have d11:decide (s.kind=11)=false:=(by rw[hk];rfl);clear hk;have AC:=hid (J7 lt lo g ca q co V w3 KS3 SZ3 OKL t ht s SA3 SO HKD);go_wp2_with fail
     refine AC.out.mono ?_;rintro e w5 ⟨lt',lo',ta,ca',oa,co',c,tx,rfl,k5,b5,p5⟩;have K5:=hid k5;have B5:=hid b5;have P5:=hid p5;clear k5 b5 p5 AC x0 x1 s0 s1 s2 s3 s4 s5 s6 s7 s8 s9 r0 r1 rf u0 u1;have RB:=hid (RR.out _ B5);have L5:=hid (L3.out.trans (B5.out.mono S0));obtain⟨r0,r1⟩:=RB.out.two;have rf:=RB.out.warm;go_wp2;refine bodyPost_ret (Aj _ _ (w.heap.size+1+1) 4 _ _ _ _ Tryz.results18 ((RB.out.setAt (i:=0) _).setAt (i:=1) _) rfl rfl rfl) rfl ⟨lt,lo,lt',lo',ta,ca',oa,co',c,tx,rfl,?_,?_,SM,.act SO t ht HT P5⟩
     ·exact((K5.out.base S0).set RB (.inl rfl) _).set (RB.out.setAt (i:=0) _) (.inl rfl) _
     ·exact(L5.out.setCell (by dsimp only;omega) _).setCell (by dsimp only;omega) _
    ·skip;have k1:(s.kind==1)=false:=(by rw[hk];rfl);have d1:decide (s.kind=1)=false:=(by rw[hk];rfl);have k12:(s.kind==12)=false:=(by rw[hk];rfl);have d12:decide (s.kind=12)=false:=(by rw[hk];rfl);have k14:(s.kind==14)=false:=(by rw[hk];rfl);have d14:decide (s.kind=14)=false:=(by rw[hk];rfl);have k2:(s.kind==2)=false:=(by rw[hk];rfl);have d2:decide (s.kind=2)=false:=(by rw[hk];rfl);have k3:(s.kind==3)=true:=(by rw[hk];rfl);have d3:decide (s.kind=3)=true:=(by rw[hk];rfl);have k4:(s.kind==4)=false:=(by rw[hk];rfl);have d4:decide (s.kind=4)=false:=(by rw[hk];rfl);have k5:(s.kind==5)=false:=(by rw[hk];rfl);have d5:decide (s.kind=5)=false:=(by rw[hk];rfl);have k11:(s.kind==11)=false:=(by rw[hk];rfl);have d11:decide (s.kind=11)=false:=(by rw[hk];rfl);clear hk;have AC:=hid (J7 lt lo g ca q co V w3 KS3 SZ3 OKL t ht s SA3 SO HKD);go_wp2_with fail
     refine AC.out.mono ?_;rintro e w5 ⟨lt',lo',ta,ca',oa,co',c,tx,rfl,k5,b5,p5⟩;have K5:=hid k5;have B5:=hid b5;have P5:=hid p5;clear k5 b5 p5 AC x0 x1 s0 s1 s2 s3 s4 s5 s6 s7 s8 s9 r0 r1 rf u0 u1;have RB:=hid (RR.out _ B5);have L5:=hid (L3.out.trans (B5.out.mono S0));obtain⟨r0,r1⟩:=RB.out.two;have rf:=RB.out.warm;go_wp2;refine bodyPost_ret (Aj _ _ (w.heap.size+1+1) 4 _ _ _ _ Tryz.results18 ((RB.out.setAt (i:=0) _).setAt (i:=1) _) rfl rfl rfl) rfl ⟨lt,lo,lt',lo',ta,ca',oa,co',c,tx,rfl,?_,?_,SM,.act SO t ht HT P5⟩
     ·exact((K5.out.base S0).set RB (.inl rfl) _).set (RB.out.setAt (i:=0) _) (.inl rfl) _
     ·exact(L5.out.setCell (by dsimp only;omega) _).setCell (by dsimp only;omega) _
    ·skip;have k1:(s.kind==1)=false:=(by rw[hk];rfl);have d1:decide (s.kind=1)=false:=(by rw[hk];rfl);have k12:(s.kind==12)=false:=(by rw[hk];rfl);have d12:decide (s.kind=12)=false:=(by rw[hk];rfl);have k14:(s.kind==14)=false:=(by rw[hk];rfl);have d14:decide (s.kind=14)=false:=(by rw[hk];rfl);have k2:(s.kind==2)=false:=(by rw[hk];rfl);have d2:decide (s.kind=2)=false:=(by rw[hk];rfl);have k3:(s.kind==3)=false:=(by rw[hk];rfl);have d3:decide (s.kind=3)=false:=(by rw[hk];rfl);have k4:(s.kind==4)=true:=(by rw[hk];rfl);have d4:decide (s.kind=4)=true:=(by rw[hk];rfl);have k5:(s.kind==5)=false:=(by rw[hk];rfl);have d5:decide (s.kind=5)=false:=(by rw[hk];rfl);have k11:(s.kind==11)=false:=(by rw[hk];rfl);have d11:decide (s.kind=11)=false:=(by rw[hk];rfl);clear hk;have AC:=hid (J7 lt lo g ca q co V w3 KS3 SZ3 OKL t ht s SA3 SO HKD);go_wp2_with fail
     refine AC.out.mono ?_;rintro e w5 ⟨lt',lo',ta,ca',oa,co',c,tx,rfl,k5,b5,p5⟩;have K5:=hid k5;have B5:=hid b5;have P5:=hid p5;clear k5 b5 p5 AC x0 x1 s0 s1 s2 s3 s4 s5 s6 s7 s8 s9 r0 r1 rf u0 u1;have RB:=hid (RR.out _ B5);have L5:=hid (L3.out.trans (B5.out.mono S0));obtain⟨r0,r1⟩:=RB.out.two;have rf:=RB.out.warm;go_wp2;refine bodyPost_ret (Aj _ _ (w.heap.size+1+1) 4 _ _ _ _ Tryz.results18 ((RB.out.setAt (i:=0) _).setAt (i:=1) _) rfl rfl rfl) rfl ⟨lt,lo,lt',lo',ta,ca',oa,co',c,tx,rfl,?_,?_,SM,.act SO t ht HT P5⟩
     ·exact((K5.out.base S0).set RB (.inl rfl) _).set (RB.out.setAt (i:=0) _) (.inl rfl) _
     ·exact(L5.out.setCell (by dsimp only;omega) _).setCell (by dsimp only;omega) _
    ·skip;have k1:(s.kind==1)=false:=(by rw[hk];rfl);have d1:decide (s.kind=1)=false:=(by rw[hk];rfl);have k12:(s.kind==12)=false:=(by rw[hk];rfl);have d12:decide (s.kind=12)=false:=(by rw[hk];rfl);have k14:(s.kind==14)=false:=(by rw[hk];rfl);have d14:decide (s.kind=14)=false:=(by rw[hk];rfl);have k2:(s.kind==2)=false:=(by rw[hk];rfl);have d2:decide (s.kind=2)=false:=(by rw[hk];rfl);have k3:(s.kind==3)=false:=(by rw[hk];rfl);have d3:decide (s.kind=3)=false:=(by rw[hk];rfl);have k4:(s.kind==4)=false:=(by rw[hk];rfl);have d4:decide (s.kind=4)=false:=(by rw[hk];rfl);have k5:(s.kind==5)=true:=(by rw[hk];rfl);have d5:decide (s.kind=5)=true:=(by rw[hk];rfl);have k11:(s.kind==11)=false:=(by rw[hk];rfl);have d11:decide (s.kind=11)=false:=(by rw[hk];rfl);clear hk;have AC:=hid (J7 lt lo g ca q co V w3 KS3 SZ3 OKL t ht s SA3 SO HKD);go_wp2_with fail
     refine AC.out.mono ?_;rintro e w5 ⟨lt',lo',ta,ca',oa,co',c,tx,rfl,k5,b5,p5⟩;have K5:=hid k5;have B5:=hid b5;have P5:=hid p5;clear k5 b5 p5 AC x0 x1 s0 s1 s2 s3 s4 s5 s6 s7 s8 s9 r0 r1 rf u0 u1;have RB:=hid (RR.out _ B5);have L5:=hid (L3.out.trans (B5.out.mono S0));obtain⟨r0,r1⟩:=RB.out.two;have rf:=RB.out.warm;go_wp2;refine bodyPost_ret (Aj _ _ (w.heap.size+1+1) 4 _ _ _ _ Tryz.results18 ((RB.out.setAt (i:=0) _).setAt (i:=1) _) rfl rfl rfl) rfl ⟨lt,lo,lt',lo',ta,ca',oa,co',c,tx,rfl,?_,?_,SM,.act SO t ht HT P5⟩
     ·exact((K5.out.base S0).set RB (.inl rfl) _).set (RB.out.setAt (i:=0) _) (.inl rfl) _
     ·exact(L5.out.setCell (by dsimp only;omega) _).setCell (by dsimp only;omega) _
   ·have HKD:=hid hk;have k1:(s.kind==1)=false:=(by rw[hk];rfl);have d1:decide (s.kind=1)=false:=(by rw[hk];rfl);have k12:(s.kind==12)=false:=(by rw[hk];rfl);have d12:decide (s.kind=12)=false:=(by rw[hk];rfl);have k14:(s.kind==14)=false:=(by rw[hk];rfl);have d14:decide (s.kind=14)=false:=(by rw[hk];rfl);have k2:(s.kind==2)=false:=(by rw[hk];rfl);have d2:decide (s.kind=2)=false:=(by rw[hk];rfl);have k3:(s.kind==3)=false:=(by rw[hk];rfl);have d3:decide (s.kind=3)=false:=(by rw[hk];rfl);have k4:(s.kind==4)=false:=(by rw[hk];rfl);have d4:decide (s.kind=4)=false:=(by rw[hk];rfl);have k5:(s.kind==5)=false:=(by rw[hk];rfl);have d5:decide (s.kind=5)=false:=(by rw[hk];rfl);have k11:(s.kind==11)=true:=(by rw[hk];rfl);have d11:decide (s.kind=11)=true:=(by rw[hk];rfl);clear hk;have AC:=hid (Xk lt lo g ca q co V w3 KS3 SZ3 OKL t ht s SA3 SO HKD);go_wp2_with fail
    refine AC.out.mono ?_;rintro e w5 ⟨lt',lo',ta,ca',oa,co',c,tx,rfl,k5,b5,p5⟩;have K5:=hid k5;have B5:=hid b5;have P5:=hid p5;clear k5 b5 p5 AC x0 x1 s0 s1 s2 s3 s4 s5 s6 s7 s8 s9 r0 r1 rf u0 u1;have RB:=hid (RR.out _ B5);have L5:=hid (L3.out.trans (B5.out.mono S0));obtain⟨r0,r1⟩:=RB.out.two;have rf:=RB.out.warm;go_wp2;refine bodyPost_ret (Aj _ _ (w.heap.size+1+1) 4 _ _ _ _ Tryz.results18 ((RB.out.setAt (i:=0) _).setAt (i:=1) _) rfl rfl rfl) rfl ⟨lt,lo,lt',lo',ta,ca',oa,co',c,tx,rfl,?_,?_,SM,.act SO t ht HT P5⟩
    ·exact((K5.out.base S0).set RB (.inl rfl) _).set (RB.out.setAt (i:=0) _) (.inl rfl) _
    ·exact(L5.out.setCell (by dsimp only;omega) _).setCell (by dsimp only;omega) _
   ·have HKD:=hid hk;have k1:(s.kind==1)=false:=(by simp only[beq_eq_false_iff_ne,ne_eq];omega);have d1:decide (s.kind=1)=false:=decide_eq_false (by omega);have k12:(s.kind==12)=false:=(by simp only[beq_eq_false_iff_ne,ne_eq];omega);have d12:decide (s.kind=12)=false:=decide_eq_false (by omega);have k14:(s.kind==14)=false:=(by simp only[beq_eq_false_iff_ne,ne_eq];omega);have d14:decide (s.kind=14)=false:=decide_eq_false (by omega);have k2:(s.kind==2)=false:=(by simp only[beq_eq_false_iff_ne,ne_eq];omega);have d2:decide (s.kind=2)=false:=decide_eq_false (by omega);have k3:(s.kind==3)=false:=(by simp only[beq_eq_false_iff_ne,ne_eq];omega);have d3:decide (s.kind=3)=false:=decide_eq_false (by omega);have k4:(s.kind==4)=false:=(by simp only[beq_eq_false_iff_ne,ne_eq];omega);have d4:decide (s.kind=4)=false:=decide_eq_false (by omega);have k5:(s.kind==5)=false:=(by simp only[beq_eq_false_iff_ne,ne_eq];omega);have d5:decide (s.kind=5)=false:=decide_eq_false (by omega);have k11:(s.kind==11)=false:=(by simp only[beq_eq_false_iff_ne,ne_eq];omega);have d11:decide (s.kind=11)=false:=decide_eq_false (by omega);clear hk;have AC:=hid (Yt lt lo g ca q co V w3 KS3 SZ3 OKL t ht s SA3 SO HKD);go_wp2_with fail
    refine AC.out.mono ?_;rintro e w5 ⟨lt',lo',ta,ca',oa,co',c,tx,rfl,k5,b5,p5⟩;have K5:=hid k5;have B5:=hid b5;have P5:=hid p5;clear k5 b5 p5 AC x0 x1 s0 s1 s2 s3 s4 s5 s6 s7 s8 s9 r0 r1 rf u0 u1;have RB:=hid (RR.out _ B5);have L5:=hid (L3.out.trans (B5.out.mono S0));obtain⟨r0,r1⟩:=RB.out.two;have rf:=RB.out.warm;go_wp2;refine bodyPost_ret (Aj _ _ (w.heap.size+1+1) 4 _ _ _ _ Tryz.results18 ((RB.out.setAt (i:=0) _).setAt (i:=1) _) rfl rfl rfl) rfl ⟨lt,lo,lt',lo',ta,ca',oa,co',c,tx,rfl,?_,?_,SM,.act SO t ht HT P5⟩
    ·exact((K5.out.base S0).set RB (.inl rfl) _).set (RB.out.setAt (i:=0) _) (.inl rfl) _
    ·exact(L5.out.setCell (by dsimp only;omega) _).setCell (by dsimp only;omega) _
theorem ZF{k:Aq}(ok:AZ k=true):∀i,i<k.on->0<=(k.O i).id/\(k.O i).id<=1000000:=fun i hi=>by
 have h:=BN.1 ok;by_cases h0:i=0
 ·subst h0;have r:=h.root;unfold Fo at r;simp only[Bool.and_eq_true,beq_iff_eq]at r;omega
 ·obtain⟨t,h1,h2,h3,h4⟩:=FQ h.thr (h.num i (by omega) hi);have f:=(Cp h.thr).2.2 t h1;unfold Dq at f;simp only[Bool.and_eq_true]at f;have g:=Hh.1 f.1;have:=g.id;have:=g.made;omega
theorem MH{x:Int}(h:0<=x/\x<=1000000):(Lit.int .i64 x).wf=true:=by
 have e1:IntKind.i64.min= -9223372036854775808:=by decide
 have e2:IntKind.i64.max=9223372036854775807:=by decide
 simp[Lit.wf,e1,e2];omega
theorem La(k:Aq)(w:World)(hk:k.at w)(ok:AZ k=true)(s:Al)(hs:s.at w):
 Calls prog 7 #[.agg #[.slice k.ta k.tn k.tk,.slice k.oa k.on k.ok],.agg #[s.th,s.kind,s.id,s.to,s.cat,.string s.data,s.b1,.slice s.c1.a s.c1.n s.c1.k,s.b2,.slice s.c2.a s.c2.n s.c2.k]] w fun e w'=>∃(lt:List Ac) (lo:List Ab) (lt':List Ac) (lo':List Ab) (ta:Option Addr) (ca:Nat) (oa:Option Addr) (co:Nat) (c:Int) (tx:ByteArray),e= .returned (.tuple #[.agg #[.slice ta lt'.length ca,.slice oa lo'.length co],.int .i64 c,.string tx])/\Bz w' w (.slice ta lt'.length ca) (.slice oa lo'.length co) lt' lo'/\Below w w w'/\k.same (Ck none 0 none 0 lt lo)/\FM lt lo s c tx lt' lo':=by
 have n1:No (.cells #[s.th,s.kind,s.id,s.to,s.cat,.string s.data,s.b1,.slice s.c1.a s.c1.n s.c1.k,s.b2,.slice s.c2.a s.c2.n s.c2.k] 32):=⟨⟩;have n3:Na #[.slice k.ta k.tn k.tk,.slice k.oa k.on k.ok]:=⟨⟩;have n4:No (.cells #[.slice none 0 0,.slice none 0 0] 27):=⟨⟩;have n2:Nw (((w.alloc (.cells n3 27)).alloc n1).alloc n4):=⟨⟩;have b0:Below w w n2:=(((Below.refl _ w).alloc (Nat.le_refl _) _).alloc (by simp) _).alloc (by simp;omega) _;have A0:Ah n2 w (.cells n3 27):=((Ah.new w _).alloc _).alloc _;have P0:Ah n2 (w.heap.size+1) n1:=by have:=(Ah.new (w.alloc (.cells n3 27)) n1).alloc n4;simpa using this
 have R0:Ah n2 (w.heap.size+1+1) n4:=by have:=Ah.new ((w.alloc (.cells n3 27)).alloc n1) n4;simpa using this
 have HK:=hid hk;have OK:=hid ok;have SA:=hid hs;have HB:=hid b0;have HA:=hid A0;have HP:=hid P0;have HR:=hid R0;clear b0 A0 P0 R0 hk ok hs;go_enter func7,ntmps7
 obtain⟨x0,x1⟩:=HA.out.two;obtain⟨s0,s1,s2,s3,s4,s5,s6,s7,s8,s9⟩:=HP.out.ten;go_wp2_with fail
 clear x0 x1 s0 s1 s2 s3 s4 s5 s6 s7 s8 s9;have S0:=hid HB.out.size;generalize (n2:World)=V at *;have C1:Hid (Calls prog 17 #[.agg n3] V fun e w'=>e= .returned (.bool true)/\Below V V w'):=hid (by
  have h:=Ij k V (HK.out.below HB) (fun i hi=>MH (ZF OK i hi));rw[OK.out]at h;exact h)
 refine C1.out.mono ?_;rintro e w1 ⟨rfl,hb1⟩;have B1:=hid hb1;have L1:=hid (Af HB hb1);clear hb1;obtain⟨x0,x1⟩:=(HA.out.below B1).two;obtain⟨s0,s1,s2,s3,s4,s5,s6,s7,s8,s9⟩:=(HP.out.below B1).ten;go_wp2_with fail
 refine(Ts k w1 (HK.out.below L1) OK s (SA.out.below L1)).mono ?_;rintro e w2 ⟨lt,lo,lt',lo',ta,ca,oa,co,c,tx,rfl,k2,b2,sm,dp⟩;have K2:=hid (k2.base L1.out.size);have L2:=hid (Af L1 b2);have SM:=hid sm;have DP:=hid dp;have RB:=hid ((HR.out.below B1).below b2);clear k2 b2 sm dp x0 x1 s0 s1 s2 s3 s4 s5 s6 s7 s8 s9;obtain⟨r0,r1⟩:=RB.out.two;have rf:=RB.out.warm;go_wp2;refine bodyPost_ret (Aj _ _ (w.heap.size+1+1) 4 _ _ _ _ Tryz.results7 ((RB.out.setAt (i:=0) _).setAt (i:=1) _) rfl rfl rfl) rfl ⟨lt,lo,lt',lo',ta,ca,oa,co,c,tx,rfl,?_,?_,SM,DP⟩
 ·exact(K2.out.set RB (.inl rfl) _).set (RB.out.setAt (i:=0) _) (.inl rfl) _
 ·exact(L2.out.setCell (by dsimp only;omega) _).setCell (by dsimp only;omega) _
theorem Dr{a b c:World}{P:Nat}{row:Option Nat}(h:a.grownBy b (some P))(k:b.grownBy c row)(hr:∀j,row=some j->a.heap.size<=j):a.grownBy c (some P):=
 ⟨k.os.trans h.os,k.tape.trans h.tape,k.output.trans h.output,Nat.le_trans h.size k.size,fun j hj hne=>(k.block j (Nat.lt_of_lt_of_le hj h.size) (fun e=>by have:=hr j e.symm;omega)).trans (h.block j hj hne)⟩
theorem Ah.set1{W:World}{P t:Nat}{x y:Value}(h:Ah W P (.cells #[x,y] t))(v:Value):Ah (W.setCell ⟨P,1,none⟩ v) P (.cells #[x,v] t):=by
 unfold Ah at *;simp[World.setCell,Array.getElem?_modify,h]
theorem Ah.frozen2{W:World}{P t:Nat}{x y:Value}(h:Ah W P (.cells #[x,y] t))(i:Nat):W.frozen? ⟨P,i,none⟩=false:=by
 unfold Ah at h;simp[World.frozen?,h]
theorem Az.alloc{w:World}{B n:Nat}{v:Value}{f g:Nat->Int}(h:Az w B v n f g)(o:Obj):Az (w.alloc o) B v n f g:=World.ownsRow.alloc h o
theorem Ma(w:World)(x y:Int):AL (w.alloc (.cells #[.int .i64 x,.int .i64 y] 118)) (some ⟨w.heap.size,0,none⟩) 1 (fun _=>x) (fun _=>y):=fun _=>by
 obtain⟨h1,h2⟩:=Ah.two (Ah.new w (.cells #[.int .i64 x,.int .i64 y] 118));refine⟨w.heap.size,0,rfl,by simp,fun i hi=>?_⟩;obtain rfl:i=0:=by omega
 exact⟨h1,h2⟩
def Cr(l:List (Int×Int))(i:Nat):Int:=(l.getD i (0,0)).1
def Cs(l:List (Int×Int))(i:Nat):Int:=(l.getD i (0,0)).2
theorem Oi{l:List (Int×Int)}{p:Int×Int}{i:Nat}(h:i<l.length):Cr (l++[p]) i=Cr l i:=by
 simp[Cr,List.getElem?_append_left h]
theorem Oa{l:List (Int×Int)}{p:Int×Int}{i:Nat}(h:i<l.length):Cs (l++[p]) i=Cs l i:=by
 simp[Cs,List.getElem?_append_left h]
theorem NM(l:List (Int×Int))(p:Int×Int):Cr (l++[p]) l.length=p.1:=by simp[Cr]
theorem NC(l:List (Int×Int))(p:Int×Int):Cs (l++[p]) l.length=p.2:=by simp[Cs]
theorem Mv{f g f' g':Nat->Int}{n:Nat}(hf:∀i,i<n->f i=f' i)(hg:∀i,i<n->g i=g' i):BF f g n=BF f' g' n:=by
 unfold BF;apply List.map_congr_left;intro j hj;have hj':j<n*2:=List.mem_range.1 hj;have:j/2<n:=by omega
 unfold CR;rw[hf _ this,hg _ this]
theorem Az.congr{w:World}{B n:Nat}{v:Value}{f g f' g':Nat->Int}(h:Az w B v n f g)(hf:∀i,i<n->f i=f' i)(hg:∀i,i<n->g i=g' i):Az w B v n f' g':=by
 unfold Az at *;rw[<-Mv hf hg];exact h
def Bd(w:World)(B:Nat)(v:Value)(l:List (Int×Int)):Prop:=Az w B v l.length (Cr l) (Cs l)
theorem Bd.snoc{w:World}{B:Nat}{v:Value}{l:List (Int×Int)}{x y:Int}(h:Az w B v (l.length+1) (glue l.length (Cr l) (fun _=>x)) (glue l.length (Cs l) (fun _=>y))):Bd w B v (l++[(x,y)]):=by
 unfold Bd;rw[List.length_append];refine h.congr (fun i hi=>?_) (fun i hi=>?_)
 ·by_cases e:i<l.length
  ·simp only[glue,e,if_true];rw[Oi e]
  ·obtain rfl:i=l.length:=by have hi':i<l.length+1:=hi;omega
   rw[NM];simp[glue]
 ·by_cases e:i<l.length
  ·simp only[glue,e,if_true];rw[Oa e]
  ·obtain rfl:i=l.length:=by have hi':i<l.length+1:=hi;omega
   rw[NC];simp[glue]
theorem Bd.below{w w':World}{B:Nat}{v:Value}{l:List (Int×Int)}(h:Bd w B v l)(hb:Below w.heap.size w w'):Bd w' B v l:=by
 refine⟨h.1,?_⟩;rcases h.2 with hn|⟨g,cap,cur,hv,hbg,hg,rest⟩
 ·exact .inl hn
 ·exact .inr ⟨g,cap,cur,hv,hbg,(hb.block g (Array.getElem?_eq_some_iff.1 hg).1).trans hg,rest⟩
theorem Bd.set{w:World}{B:Nat}{v:Value}{l:List (Int×Int)}(h:Bd w B v l){P:Nat}(hP:P<B)(i:Nat)(x:Value):Bd (w.setCell ⟨P,i,none⟩ x) B v l:=
 World.ownsRow.kept h (Dm (Cf w P) i x) (Or.inr (fun e=>by have:=(World.ownsRow.lt h _ e).1;omega))
theorem Bd.low{w:World}{B B':Nat}{v:Value}{l:List (Int×Int)}(h:Bd w B v l)(hB:B'<=B):Bd w B' v l:=by
 refine⟨h.1,?_⟩;rcases h.2 with hn|⟨g,cap,cur,hv,hb,rest⟩
 ·exact .inl hn
 ·exact .inr ⟨g,cap,cur,hv,by omega,rest⟩
theorem ownsRow_base_a{w:World}{B B' e size n:Nat}{v:Value}{cs:List Value}(h:w.ownsRow B e size v n cs)(hB:B'<=B):w.ownsRow B' e size v n cs:=by
 refine⟨h.1,?_⟩;rcases h.2 with hn|⟨g,cap,cur,hv,hbg,rest⟩
 ·exact .inl hn
 ·exact .inr ⟨g,cap,cur,hv,Nat.le_trans hB hbg,rest⟩
theorem Is{a b c:World}{P:Nat}(h:a.grownBy b (some P))(k:Below b.heap.size b c):a.grownBy c (some P):=
 ⟨k.os.trans h.os,k.tape.trans h.tape,k.output.trans h.output,Nat.le_trans h.size k.size,fun j hj hne=>(k.block j (Nat.lt_of_lt_of_le hj h.size)).trans (h.block j hj hne)⟩
theorem Ah.set0{W:World}{P t:Nat}{x y:Value}(h:Ah W P (.cells #[x,y] t))(v:Value):Ah (W.setCell ⟨P,0,none⟩ v) P (.cells #[v,y] t):=by
 unfold Ah at *;simp[World.setCell,Array.getElem?_modify,h]
def EZ(base:Int)(f g:Nat->Int)(cat level:Int):Nat->List (Int×Int)×Bool
 |0=>([],level==base)
 |k+1=>
  let r:=EZ base f g cat level k
  let q:=if !r.2&&decide (cat<=f k)then(r.1++[(cat,level)],true)else r
  (if f k=cat then q.1 else q.1++[(f k,g k)],q.2)
def DW(base:Int)(n:Nat)(f g:Nat->Int)(cat level:Int):List (Int×Int):=
 let r:=EZ base f g cat level n
 if r.2 then r.1 else r.1++[(cat,level)]
theorem VA(base:Int)(f g:Nat->Int)(cat level:Int)(k:Nat):(EZ base f g cat level k).1.length<=2*k:=by
 induction k with
 |zero=>simp[EZ]
 |succ k ih=>
  simp only[EZ];split<;>split<;>(try simp only[List.length_append,List.length_singleton])<;>omega
end Go.Proofs.YtphddbnadcjhgaaGreatDoor
