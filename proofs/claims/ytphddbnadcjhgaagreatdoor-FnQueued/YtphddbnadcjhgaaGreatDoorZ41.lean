import Derived.Test.YtphddbnadcjhgaaGreatDoorZ0
import Derived.Test.YtphddbnadcjhgaaGreatDoorZ37
import Derived.Test.YtphddbnadcjhgaaGreatDoorZ38
import Derived.Test.YtphddbnadcjhgaaGreatDoorZ39
import Derived.Test.YtphddbnadcjhgaaGreatDoorZ40
import Derived.Test.YtphddbnadcjhgaaGreatDoorRows
import Derived.ChangeSame
import Derived.ChangeVars
import Derived.JoinedOf
import Derived.LaidLaws
import Derived.LaidHandle
import Derived.Stop.LaidErr
import Derived.Lib.LaidTab
import Derived.Deep.DeepLaidRun
import Derived.SevenTiedAt
import Derived.Lib.SmallJoins
import Derived.ProofKit
import Derived.OpenShut
import Derived.ShutString
import Derived.ChangeOld
import Derived.ChangeMaps5
import Derived.Deep.SlicePairs
import Derived.Test.YtphddbnadcjhgaaGreatDoorZ21
set_option maxRecDepth 100000
set_option maxHeartbeats 32000000
namespace Go.Proofs.YtphddbnadcjhgaaGreatDoor
open Go Go.RowKit Go.Deep Go.Maps Go.BigFrame Go.Shelf Go.Proofs.Tryz
theorem Q3(E:Nat->Addr)(a:Option Addr)(n cap:Nat)(w:World)(hb:1048576<n∨BytesAt w a n)(hv:Vx w E):
 Calls prog 3 #[.slice a n cap] w fun e w'=>e= .returned (.bool true)/\Below w.heap.size w w':=by
 have HB:=hid hb;have HV:=hid hv;clear hb hv;go_enter func3,ntmps3
 go_wp2_with fail
 refine(Yz a n cap w).mono ?_;rintro e w0 ⟨rfl,rfl⟩;by_cases hbig:1048576<n
 ·have e1:decide (1048576<n)=true:=decide_eq_true hbig;rw[e1];go_wp2;go_ret;exact⟨rfl,Below.refl _ _⟩
 have e1:decide (1048576<n)=false:=decide_eq_false hbig;rw[e1];clear e1;go_wp2_with fail
 refine(Qu a n cap w0 (by omega) (HB.out.resolve_left hbig)).mono ?_;rintro e w1 ⟨lt,lo,g,ca,q,co,s,rfl,ks,kd,hs,b1⟩;have b2:Below w1.heap.size w1 ((w1.alloc (.cells #[.slice (some ⟨g,0,none⟩) lt.length ca,.slice (some ⟨q,0,none⟩) lo.length co] 27)).alloc (.cells #[.int .i64 s.th,.int .i64 s.kind,.int .i64 s.id,.int .i64 s.to,.int .i64 s.cat,.string s.data,.int .i64 s.b1,.slice s.c1.a s.c1.n s.c1.k,.int .i64 s.b2,.slice s.c2.a s.c2.n s.c2.k] 32)):=((Below.refl _ w1).alloc (Nat.le_refl _) _).alloc (by simp) _;have KS:Hid (Bz ((w1.alloc (.cells #[.slice (some ⟨g,0,none⟩) lt.length ca,.slice (some ⟨q,0,none⟩) lo.length co] 27)).alloc (.cells #[.int .i64 s.th,.int .i64 s.kind,.int .i64 s.id,.int .i64 s.to,.int .i64 s.cat,.string s.data,.int .i64 s.b1,.slice s.c1.a s.c1.n s.c1.k,.int .i64 s.b2,.slice s.c2.a s.c2.n s.c2.k] 32)) w0.heap.size (.slice (some ⟨g,0,none⟩) lt.length ca) (.slice (some ⟨q,0,none⟩) lo.length co) lt lo):=hid (ks.below b2);have KF:=hid kd.F;have SZ:Hid (s.data.size<=maxLen):=hid (Nat.le_trans hs.2.2.1 (by unfold maxLen;omega));have XI:Hid ((Lit.int .i64 s.id).wf=true):=hid (MH hs.2.2.2);have LB:Hid (Below w0.heap.size w0 ((w1.alloc (.cells #[.slice (some ⟨g,0,none⟩) lt.length ca,.slice (some ⟨q,0,none⟩) lo.length co] 27)).alloc (.cells #[.int .i64 s.th,.int .i64 s.kind,.int .i64 s.id,.int .i64 s.to,.int .i64 s.cat,.string s.data,.int .i64 s.b1,.slice s.c1.a s.c1.n s.c1.k,.int .i64 s.b2,.slice s.c2.a s.c2.n s.c2.k] 32))):=hid (Af b1 b2);have CB:Hid (Ah ((w1.alloc (.cells #[.slice (some ⟨g,0,none⟩) lt.length ca,.slice (some ⟨q,0,none⟩) lo.length co] 27)).alloc (.cells #[.int .i64 s.th,.int .i64 s.kind,.int .i64 s.id,.int .i64 s.to,.int .i64 s.cat,.string s.data,.int .i64 s.b1,.slice s.c1.a s.c1.n s.c1.k,.int .i64 s.b2,.slice s.c2.a s.c2.n s.c2.k] 32)) w1.heap.size (.cells #[.slice (some ⟨g,0,none⟩) lt.length ca,.slice (some ⟨q,0,none⟩) lo.length co] 27)):=hid ((Ah.new w1 _).alloc _);have SB:Hid (Ah ((w1.alloc (.cells #[.slice (some ⟨g,0,none⟩) lt.length ca,.slice (some ⟨q,0,none⟩) lo.length co] 27)).alloc (.cells #[.int .i64 s.th,.int .i64 s.kind,.int .i64 s.id,.int .i64 s.to,.int .i64 s.cat,.string s.data,.int .i64 s.b1,.slice s.c1.a s.c1.n s.c1.k,.int .i64 s.b2,.slice s.c2.a s.c2.n s.c2.k] 32)) (w1.heap.size+1) (.cells #[.int .i64 s.th,.int .i64 s.kind,.int .i64 s.id,.int .i64 s.to,.int .i64 s.cat,.string s.data,.int .i64 s.b1,.slice s.c1.a s.c1.n s.c1.k,.int .i64 s.b2,.slice s.c2.a s.c2.n s.c2.k] 32)):=hid (by have:=Ah.new (w1.alloc (.cells #[.slice (some ⟨g,0,none⟩) lt.length ca,.slice (some ⟨q,0,none⟩) lo.length co] 27)) (.cells #[.int .i64 s.th,.int .i64 s.kind,.int .i64 s.id,.int .i64 s.to,.int .i64 s.cat,.string s.data,.int .i64 s.b1,.slice s.c1.a s.c1.n s.c1.k,.int .i64 s.b2,.slice s.c2.a s.c2.n s.c2.k] 32);simpa using this);have CW:Hid (w1.heap.size+1<((w1.alloc (.cells #[.slice (some ⟨g,0,none⟩) lt.length ca,.slice (some ⟨q,0,none⟩) lo.length co] 27)).alloc (.cells #[.int .i64 s.th,.int .i64 s.kind,.int .i64 s.id,.int .i64 s.to,.int .i64 s.cat,.string s.data,.int .i64 s.b1,.slice s.c1.a s.c1.n s.c1.k,.int .i64 s.b2,.slice s.c2.a s.c2.n s.c2.k] 32)).heap.size):=hid (by simp);have CL:Hid (w0.heap.size<=((w1.alloc (.cells #[.slice (some ⟨g,0,none⟩) lt.length ca,.slice (some ⟨q,0,none⟩) lo.length co] 27)).alloc (.cells #[.int .i64 s.th,.int .i64 s.kind,.int .i64 s.id,.int .i64 s.to,.int .i64 s.cat,.string s.data,.int .i64 s.b1,.slice s.c1.a s.c1.n s.c1.k,.int .i64 s.b2,.slice s.c2.a s.c2.n s.c2.k] 32)).heap.size):=hid LB.out.size;clear ks kd hs b1 b2 HB hbig;go_upto_region 4 with fail
 generalize ((w1.alloc (.cells #[.slice (some ⟨g,0,none⟩) lt.length ca,.slice (some ⟨q,0,none⟩) lo.length co] 27)).alloc (.cells #[.int .i64 s.th,.int .i64 s.kind,.int .i64 s.id,.int .i64 s.to,.int .i64 s.cat,.string s.data,.int .i64 s.b1,.slice s.c1.a s.c1.n s.c1.k,.int .i64 s.b2,.slice s.c2.a s.c2.n s.c2.k] 32))=W2 at *;generalize w1.heap.size=C at *;obtain⟨s0,s1,s2,s3,s4,s5,s6,s7,s8,s9⟩:=SB.out.ten;have b3:Below W2.heap.size W2 (W2.alloc (.cells #[.int .i64 s.th,.int .i64 9,.int .i64 s.id,.int .i64 0,.int .i64 0,.string s.data,.int .i64 0,.slice none 0 0,.int .i64 0,.slice none 0 0] 32)):=(Below.refl _ W2).alloc (Nat.le_refl _) _;have KS3:=hid (KS.out.below b3);have S3:=hid (SB.out.below b3);have C3:=hid (CB.out.below b3);have T3:=hid (Ah.new W2 (.cells #[.int .i64 s.th,.int .i64 9,.int .i64 s.id,.int .i64 0,.int .i64 0,.string s.data,.int .i64 0,.slice none 0 0,.int .i64 0,.slice none 0 0] 32));have L3:=hid (Af LB.out b3);clear KS SB CB LB b3;go_upto_region 5 with fail
 clear s0 s1 s2 s3 s4 s5 s6 s7 s8 s9;have W3s:Hid (W2.heap.size<(W2.alloc (.cells #[.int .i64 s.th,.int .i64 9,.int .i64 s.id,.int .i64 0,.int .i64 0,.string s.data,.int .i64 0,.slice none 0 0,.int .i64 0,.slice none 0 0] 32)).heap.size):=hid (by simp);generalize W2.alloc (.cells #[.int .i64 s.th,.int .i64 9,.int .i64 s.id,.int .i64 0,.int .i64 0,.string s.data,.int .i64 0,.slice none 0 0,.int .i64 0,.slice none 0 0] 32)=W3 at *;generalize W2.heap.size=D at *;obtain⟨s0,s1,s2,s3,s4,s5,s6,s7,s8,s9⟩:=S3.out.ten;have b4:Below W3.heap.size W3 (W3.alloc (.cells #[.int .i64 s.th,.int .i64 10,.int .i64 s.id,.int .i64 0,.int .i64 0,.string ⟨#[]⟩,.int .i64 0,.slice none 0 0,.int .i64 0,.slice none 0 0] 32)):=(Below.refl _ W3).alloc (Nat.le_refl _) _;have KS4:=hid (KS3.out.below b4);have S4:=hid (S3.out.below b4);have C4:=hid (C3.out.below b4);have T4:=hid (T3.out.below b4);have U4:=hid (Ah.new W3 (.cells #[.int .i64 s.th,.int .i64 10,.int .i64 s.id,.int .i64 0,.int .i64 0,.string ⟨#[]⟩,.int .i64 0,.slice none 0 0,.int .i64 0,.slice none 0 0] 32));have L:=hid (Af L3.out b4);clear KS3 S3 C3 T3 L3 b4;go_upto_region 6 with fail
 clear s0 s1 s2 s3 s4 s5 s6 s7 s8 s9;have W4s:Hid (W3.heap.size<(W3.alloc (.cells #[.int .i64 s.th,.int .i64 10,.int .i64 s.id,.int .i64 0,.int .i64 0,.string ⟨#[]⟩,.int .i64 0,.slice none 0 0,.int .i64 0,.slice none 0 0] 32)).heap.size):=hid (by simp);generalize W3.alloc (.cells #[.int .i64 s.th,.int .i64 10,.int .i64 s.id,.int .i64 0,.int .i64 0,.string ⟨#[]⟩,.int .i64 0,.slice none 0 0,.int .i64 0,.slice none 0 0] 32)=W4 at *;generalize W3.heap.size=D2 at *;have KN:=hid (Kn.mk KS4.out.f KF.out);have DN:Hid (Calls prog 6 #[.agg #[.slice (some ⟨g,0,none⟩) lt.length ca,.slice (some ⟨q,0,none⟩) lo.length co],.agg #[.int .i64 s.th,.int .i64 9,.int .i64 s.id,.int .i64 0,.int .i64 0,.string s.data,.int .i64 0,.slice none 0 0,.int .i64 0,.slice none 0 0]] W4 fun e w'=>To (Ck (some ⟨g,0,none⟩) ca (some ⟨q,0,none⟩) co lt lo) (FY s 9 0 s.data) W4 e w'):=hid (KN.out.done (Iy E (s:=FY s 9 0 s.data) (.inr (.inr (.inr (.inl rfl))))) (IV s 9 0 s.data SZ.out W4) (HV.out.below L.out));obtain⟨k0,k1⟩:=C4.out.two;obtain⟨s0,s1,s2,s3,s4,s5,s6,s7,s8,s9⟩:=T4.out.ten;go_wp2_with fail
 refine DN.out.mono ?_;rintro e w5 ⟨lt1,lo1,ta1,oa1,ca1,co1,c1,tx1,rfl,kf4,ap4,rt4,hb4⟩;clear DN k0 k1 s0 s1 s2 s3 s4 s5 s6 s7 s8 s9;have RT1:=hid rt4;have b5:Below w5.heap.size w5 (w5.alloc (.cells #[.slice ta1 lt1.length ca1,.slice oa1 lo1.length co1] 27)):=(Below.refl _ w5).alloc (Nat.le_refl _) _;have KA:=hid (kf4.below b5);have NB:=hid (Ah.new w5 (.cells #[.slice ta1 lt1.length ca1,.slice oa1 lo1.length co1] 27));have D5:=hid (Af hb4 b5);have hq5:=hb4.size;clear kf4 ap4 rt4 hb4 b5;have SN:Hid (Calls prog 7 #[.agg #[.slice (some ⟨g,0,none⟩) lt.length ca,.slice (some ⟨q,0,none⟩) lo.length co],.agg #[.int .i64 s.th,.int .i64 9,.int .i64 s.id,.int .i64 0,.int .i64 0,.string s.data,.int .i64 0,.slice none 0 0,.int .i64 0,.slice none 0 0]] (w5.alloc (.cells #[.slice ta1 lt1.length ca1,.slice oa1 lo1.length co1] 27)) fun e w'=>ZB (Ck (some ⟨g,0,none⟩) ca (some ⟨q,0,none⟩) co lt lo) (FY s 9 0 s.data) (w5.alloc (.cells #[.slice ta1 lt1.length ca1,.slice oa1 lo1.length co1] 27)) e w'):=hid ((KN.out.below D5.out).spec (IV s 9 0 s.data SZ.out _));obtain⟨k0,k1⟩:=(C4.out.below D5.out).two;obtain⟨s0,s1,s2,s3,s4,s5,s6,s7,s8,s9⟩:=(T4.out.below D5.out).ten;go_wp2_with fail
 generalize w5.alloc (.cells #[.slice ta1 lt1.length ca1,.slice oa1 lo1.length co1] 27)=W5 at *;have QL:Hid (W4.heap.size<=w5.heap.size):=hid hq5;generalize w5.heap.size=Q at *;refine SN.out.mono ?_;rintro e w6 ⟨H9,MF,ta0,oa0,ca0,co0,c0,tx0,rfl,kf6,rt6,hb6⟩;obtain⟨ec,_,_,_⟩:=RO RT1.out rt6;subst ec;clear SN k0 k1 s0 s1 s2 s3 s4 s5 s6 s7 s8 s9 kf6 rt6;have b6:Below w6.heap.size w6 (w6.alloc (.cells #[.slice ta0 H9.length ca0,.slice oa0 MF.length co0] 27)):=(Below.refl _ w6).alloc (Nat.le_refl _) _;have A7:=hid (KA.out.below (Af hb6 b6));have N7:=hid (NB.out.below (Af hb6 b6));have D7:=hid (Af D5.out (Af hb6 b6));clear hb6 b6 KA NB D5;go_upto_region 8 with fail
 generalize w6.alloc (.cells #[.slice ta0 H9.length ca0,.slice oa0 MF.length co0] 27)=W7 at *;have OB:Hid (Calls prog 8 #[.agg #[.slice (some ⟨g,0,none⟩) lt.length ca,.slice (some ⟨q,0,none⟩) lo.length co],.int .i64 s.id] W7 fun e w'=>∃(o:Ab) (b:Bool),e= .returned (.tuple #[.agg #[.int .i64 o.id,.int .i64 o.kind,.int .i64 o.up,.int .i64 o.b1,.slice o.c1.a o.c1.n o.c1.k,.string o.data,.slice o.items.a o.items.n o.items.k,.slice o.own.a o.own.n o.own.k,.int .i64 o.b2,.slice o.c2.a o.c2.n o.c2.k],.bool b])/\o.items.n=(Sf (Ck (some ⟨g,0,none⟩) ca (some ⟨q,0,none⟩) co lt lo) s.id).items.n/\Below W7.heap.size W7 w'):=hid (((KN.out.below D7.out).obj XI.out).mono fun e w' ⟨gg,e1,sm,_,_,hb⟩=>⟨gg,_,e1,sm.2.2.2.2.2.2.1.1,hb⟩);obtain⟨k0,k1⟩:=(C4.out.below D7.out).two;obtain⟨s0,s1,s2,s3,s4,s5,s6,s7,s8,s9⟩:=(S4.out.below D7.out).ten;go_wp2_with fail
 refine OB.out.mono ?_;rintro e w8 ⟨o,ob,rfl,hn,hb8⟩;have HN:=hid hn;have b8:Below w8.heap.size w8 (w8.alloc (.cells #[.int .i64 o.id,.int .i64 o.kind,.int .i64 o.up,.int .i64 o.b1,.slice o.c1.a o.c1.n o.c1.k,.string o.data,.slice o.items.a o.items.n o.items.k,.slice o.own.a o.own.n o.own.k,.int .i64 o.b2,.slice o.c2.a o.c2.n o.c2.k] 40)):=(Below.refl _ w8).alloc (Nat.le_refl _) _;have D8:=hid (Af hb8 b8);have OBK:=hid (Ah.new w8 (.cells #[.int .i64 o.id,.int .i64 o.kind,.int .i64 o.up,.int .i64 o.b1,.slice o.c1.a o.c1.n o.c1.k,.string o.data,.slice o.items.a o.items.n o.items.k,.slice o.own.a o.own.n o.own.k,.int .i64 o.b2,.slice o.c2.a o.c2.n o.c2.k] 40));clear OB k0 k1 s0 s1 s2 s3 s4 s5 s6 s7 s8 s9 hb8 b8 hn;go_upto_region 9 with fail
 generalize w8.alloc (.cells #[.int .i64 o.id,.int .i64 o.kind,.int .i64 o.up,.int .i64 o.b1,.slice o.c1.a o.c1.n o.c1.k,.string o.data,.slice o.items.a o.items.n o.items.k,.slice o.own.a o.own.n o.own.k,.int .i64 o.b2,.slice o.c2.a o.c2.n o.c2.k] 40)=W9 at *;generalize w8.heap.size=OP at *;have C9:=hid (C4.out.below (Af D7.out D8.out));have S9:=hid (S4.out.below (Af D7.out D8.out));have T9:=hid (T4.out.below (Af D7.out D8.out));have U9:=hid (U4.out.below (Af D7.out D8.out));have K9:=hid (KS4.out.below (Af D7.out D8.out));have A9:=hid (A7.out.below D8.out);have N9:=hid (N7.out.below D8.out);have L9:=hid (Af L.out (Af D7.out D8.out));have Q9:Hid (W4.heap.size<=W9.heap.size):=hid (Af D7.out D8.out).size;clear C4 S4 T4 U4 KS4 A7 N7 L D7 D8 KN;obtain⟨o0,o1,o2,o3,o4,o5,o6,o7,o8,o9⟩:=OBK.out.ten;have n0:(c0 != c0)=false:=by simp
 have n1:(c0==c0)=true:=by simp
 by_cases hc:c0=0;rotate_left
 ·have n2:(c0 != 0)=true:=by simpa using hc
  go_wp2;go_ret;exact⟨rfl,L9.out⟩
 subst hc;by_cases hn:o.items.n=0;rotate_left
 ·have i1:(0:Int)<(o.items.n:Int):=by omega
  go_wp2;go_ret;exact⟨rfl,L9.out⟩
 have i1:¬(0:Int)<(o.items.n:Int):=by omega
 have HZ:Hid ((Sf (Ck (some ⟨g,0,none⟩) ca (some ⟨q,0,none⟩) co lt lo) s.id).items.n=0):=hid (HN.out.symm.trans hn);have OK1:Hid (okL lt1 lo1=true):=hid (RT1.out.right (by decide)).2;have tw:=T9.out.warm;obtain⟨s0,s1,s2,s3,s4,s5,s6,s7,s8,s9⟩:=T9.out.ten;go_upto_region 12 with fail
 clear s0 s1 s2 s3 s4 s5 s6 s7 s8 s9 tw o0 o1 o2 o3 o4 o5 o6 o7 o8 o9 n0 n1 i1;have dl:D<W4.heap.size:=Nat.lt_trans W3s.out W4s.out;have gq:W9.grownBy (W9.setCell ⟨D,5,none⟩ (.string ⟨#[110,101,120,116]⟩)) (some D):=Bh ⟨rfl,rfl,rfl,Nat.le_refl _,fun _ _ _=>rfl⟩ _ _;have T:Hid (Ah (W9.setCell ⟨D,5,none⟩ (.string ⟨#[110,101,120,116]⟩)) D (.cells #[.int .i64 s.th,.int .i64 9,.int .i64 s.id,.int .i64 0,.int .i64 0,.string Io,.int .i64 0,.slice none 0 0,.int .i64 0,.slice none 0 0] 32)):=hid (T9.out.setAt (i:=5) (.string ⟨#[110,101,120,116]⟩));have CC:=hid (C9.out.grown gq (by simp;have:=CW.out;omega));have SS:=hid (S9.out.grown gq (by simp;have:=CW.out;omega));have U:=hid (U9.out.grown gq (by simp;have:=W3s.out;omega));have B1:=hid (N9.out.grown gq (by simp;have:=QL.out;omega));have KZ:=hid (K9.out.set (i:=5) T9.out (.inr rfl) (.string ⟨#[110,101,120,116]⟩));have KN1:=hid (Kn.mk (A9.out.past gq dl) (JK OK1.out));have L:Hid (Below w0.heap.size w0 (W9.setCell ⟨D,5,none⟩ (.string ⟨#[110,101,120,116]⟩))):=hid (L9.out.setCell CL.out _);clear T9 C9 S9 U9 N9 K9 A9 L9 gq dl OBK;generalize W9.setCell ⟨D,5,none⟩ (.string ⟨#[110,101,120,116]⟩)=V1 at *;have DN:Hid (Calls prog 6 #[.agg #[.slice ta1 lt1.length ca1,.slice oa1 lo1.length co1],.agg #[.int .i64 s.th,.int .i64 9,.int .i64 s.id,.int .i64 0,.int .i64 0,.string Io,.int .i64 0,.slice none 0 0,.int .i64 0,.slice none 0 0]] V1 fun e w'=>To (Ck ta1 ca1 oa1 co1 lt1 lo1) (FY s 9 0 Io) V1 e w'):=hid (KN1.out.done (Iy E (s:=FY s 9 0 Io) (.inr (.inr (.inr (.inl rfl))))) (IV s 9 0 Io (by unfold maxLen;decide) V1) (HV.out.below L.out));obtain⟨k0,k1⟩:=B1.out.two;obtain⟨s0,s1,s2,s3,s4,s5,s6,s7,s8,s9⟩:=T.out.ten;go_wp2_with fail
 refine DN.out.mono ?_;rintro e x ⟨lt2,lo2,ta2,oa2,ca2,co2,c2,tx2,rfl,kf,ap,rt,hb⟩;have RT2:=hid rt;have OK2:Hid (okL lt2 lo2=true):=hid (rt.ok2 OK1.out);clear DN k0 k1 s0 s1 s2 s3 s4 s5 s6 s7 s8 s9 rt ap;have b:Below x.heap.size x (x.alloc (.cells #[.slice ta2 lt2.length ca2,.slice oa2 lo2.length co2] 27)):=(Below.refl _ x).alloc (Nat.le_refl _) _;have KN2:=hid (Kn.mk (kf.below b) (JK OK2.out));have B2:=hid (Ah.new x (.cells #[.slice ta2 lt2.length ca2,.slice oa2 lo2.length co2] 27));have DD:=hid (Af hb b);have CC:=hid (CC.out.below DD.out);have SS:=hid (SS.out.below DD.out);have T:=hid (T.out.below DD.out);have U:=hid (U.out.below DD.out);have KZ:=hid (KZ.out.below DD.out);have L:=hid (Af L.out DD.out);clear kf hb b DD;go_upto_region 13 with fail
 generalize x.alloc (.cells #[.slice ta2 lt2.length ca2,.slice oa2 lo2.length co2] 27)=V2 at *;generalize x.heap.size=P2 at *;have DN:Hid (Calls prog 6 #[.agg #[.slice ta2 lt2.length ca2,.slice oa2 lo2.length co2],.agg #[.int .i64 s.th,.int .i64 10,.int .i64 s.id,.int .i64 0,.int .i64 0,.string ⟨#[]⟩,.int .i64 0,.slice none 0 0,.int .i64 0,.slice none 0 0]] V2 fun e w'=>To (Ck ta2 ca2 oa2 co2 lt2 lo2) (FY s 10 0 ⟨#[]⟩) V2 e w'):=hid (KN2.out.done (Iy E (s:=FY s 10 0 ⟨#[]⟩) (.inr (.inr (.inr (.inr (.inl rfl)))))) (IV s 10 0 ⟨#[]⟩ (Nat.zero_le _) V2) (HV.out.below L.out));obtain⟨k0,k1⟩:=B2.out.two;obtain⟨s0,s1,s2,s3,s4,s5,s6,s7,s8,s9⟩:=U.out.ten;go_wp2_with fail
 refine DN.out.mono ?_;rintro e x ⟨Sl,lo3,ta3,oa3,ca3,co3,c3,tx3,rfl,kf,ap,rt,hb⟩;have RT3:=hid rt;have OK3:Hid (okL Sl lo3=true):=hid (rt.ok2 OK2.out);clear DN k0 k1 s0 s1 s2 s3 s4 s5 s6 s7 s8 s9 rt ap;have b:Below x.heap.size x (x.alloc (.cells #[.slice ta3 Sl.length ca3,.slice oa3 lo3.length co3] 27)):=(Below.refl _ x).alloc (Nat.le_refl _) _;have KN3:=hid (Kn.mk (kf.below b) (JK OK3.out));have B3:=hid (Ah.new x (.cells #[.slice ta3 Sl.length ca3,.slice oa3 lo3.length co3] 27));have DD:=hid (Af hb b);have CC:=hid (CC.out.below DD.out);have SS:=hid (SS.out.below DD.out);have T:=hid (T.out.below DD.out);have U:=hid (U.out.below DD.out);have KZ:=hid (KZ.out.below DD.out);have L:=hid (Af L.out DD.out);clear kf hb b DD;go_upto_region 14 with fail
 generalize x.alloc (.cells #[.slice ta3 Sl.length ca3,.slice oa3 lo3.length co3] 27)=V3 at *;generalize x.heap.size=P3 at *;have DN:Hid (Calls prog 6 #[.agg #[.slice ta3 Sl.length ca3,.slice oa3 lo3.length co3],.agg #[.int .i64 s.th,.int .i64 10,.int .i64 s.id,.int .i64 0,.int .i64 0,.string ⟨#[]⟩,.int .i64 0,.slice none 0 0,.int .i64 0,.slice none 0 0]] V3 fun e w'=>To (Ck ta3 ca3 oa3 co3 Sl lo3) (FY s 10 0 ⟨#[]⟩) V3 e w'):=hid (KN3.out.done (Iy E (s:=FY s 10 0 ⟨#[]⟩) (.inr (.inr (.inr (.inr (.inl rfl)))))) (IV s 10 0 ⟨#[]⟩ (Nat.zero_le _) V3) (HV.out.below L.out));obtain⟨k0,k1⟩:=B3.out.two;obtain⟨s0,s1,s2,s3,s4,s5,s6,s7,s8,s9⟩:=U.out.ten;go_wp2_with fail
 refine DN.out.mono ?_;rintro e x ⟨lt4,lo4,ta4,oa4,ca4,co4,c4,tx4,rfl,kf,ap,rt,hb⟩;have RT4:=hid rt;have OK4:Hid (okL lt4 lo4=true):=hid (rt.ok2 OK3.out);clear DN k0 k1 s0 s1 s2 s3 s4 s5 s6 s7 s8 s9 rt ap;have b:Below x.heap.size x (x.alloc (.cells #[.slice ta4 lt4.length ca4,.slice oa4 lo4.length co4] 27)):=(Below.refl _ x).alloc (Nat.le_refl _) _;have KN4:=hid (Kn.mk (kf.below b) (JK OK4.out));have B4:=hid (Ah.new x (.cells #[.slice ta4 lt4.length ca4,.slice oa4 lo4.length co4] 27));have DD:=hid (Af hb b);have CC:=hid (CC.out.below DD.out);have SS:=hid (SS.out.below DD.out);have T:=hid (T.out.below DD.out);have U:=hid (U.out.below DD.out);have KZ:=hid (KZ.out.below DD.out);have L:=hid (Af L.out DD.out);clear kf hb b DD;go_upto_region 15 with fail
 generalize x.alloc (.cells #[.slice ta4 lt4.length ca4,.slice oa4 lo4.length co4] 27)=V4 at *;generalize x.heap.size=P4 at *;have DN:Hid (Calls prog 6 #[.agg #[.slice ta4 lt4.length ca4,.slice oa4 lo4.length co4],.agg #[.int .i64 s.th,.int .i64 10,.int .i64 s.id,.int .i64 0,.int .i64 0,.string ⟨#[]⟩,.int .i64 0,.slice none 0 0,.int .i64 0,.slice none 0 0]] V4 fun e w'=>To (Ck ta4 ca4 oa4 co4 lt4 lo4) (FY s 10 0 ⟨#[]⟩) V4 e w'):=hid (KN4.out.done (Iy E (s:=FY s 10 0 ⟨#[]⟩) (.inr (.inr (.inr (.inr (.inl rfl)))))) (IV s 10 0 ⟨#[]⟩ (Nat.zero_le _) V4) (HV.out.below L.out));obtain⟨k0,k1⟩:=B4.out.two;obtain⟨s0,s1,s2,s3,s4,s5,s6,s7,s8,s9⟩:=U.out.ten;go_wp2_with fail
 refine DN.out.mono ?_;rintro e x ⟨lt5,lo5,ta5,oa5,ca5,co5,c5,tx5,rfl,kf,ap,rt,hb⟩;have RT5:=hid rt;have OK5:Hid (okL lt5 lo5=true):=hid (rt.ok2 OK4.out);clear DN k0 k1 s0 s1 s2 s3 s4 s5 s6 s7 s8 s9 rt ap;have b:Below x.heap.size x (x.alloc (.cells #[.slice ta5 lt5.length ca5,.slice oa5 lo5.length co5] 27)):=(Below.refl _ x).alloc (Nat.le_refl _) _;have KN5:=hid (Kn.mk (kf.below b) (JK OK5.out));have B5:=hid (Ah.new x (.cells #[.slice ta5 lt5.length ca5,.slice oa5 lo5.length co5] 27));have DD:=hid (Af hb b);have KN4:=hid (KN4.out.below DD.out);have B4:=hid (B4.out.below DD.out);have CC:=hid (CC.out.below DD.out);have SS:=hid (SS.out.below DD.out);have T:=hid (T.out.below DD.out);have U:=hid (U.out.below DD.out);have KZ:=hid (KZ.out.below DD.out);have L:=hid (Af L.out DD.out);clear kf hb b DD;go_upto_region 16 with fail
 generalize x.alloc (.cells #[.slice ta5 lt5.length ca5,.slice oa5 lo5.length co5] 27)=V5 at *;generalize x.heap.size=P5 at *;obtain⟨r1,r2,r3,r4,r5,r6,r7⟩:=RS RT1.out HZ.out RT2.out RT3.out RT4.out RT5.out;subst r1 r2 r3 r4 r5 r6;have TX:=hid r7;have ET:Hid (∀args w,(callFunc 9 args).run prog w= .ok (.enter 9 args) w):=hid (enters_of func9 (by kernel_rfl) rfl);have KNZ:=hid (Kn.mk KZ.out.f KF.out);have X4:Hid (∀W,Below V5.heap.size V5 W->Calls prog 9 #[.agg #[.slice ta4 lt4.length ca4,.slice oa4 lo4.length co4]] W fun e w'=>∃v,e= .returned v/\(v= .string (Hw (Ck (some ⟨g,0,none⟩) ca (some ⟨q,0,none⟩) co lt lo))/\Below W.heap.size W w')):=hid (fun W hW=>((JO (Ck ta4 ca4 oa4 co4 lt4 lo4) W ((KN4.out.below hW).st.at KN4.out.f) KN4.out.f.wf).mono fun e w' ⟨h1,h2⟩=>⟨_,h1,by rw[TX.out],h2⟩));have X0:Hid (∀W,Below V5.heap.size V5 W->Calls prog 9 #[.agg #[.slice (some ⟨g,0,none⟩) lt.length ca,.slice (some ⟨q,0,none⟩) lo.length co]] W fun e w'=>∃v,e= .returned v/\(v= .string (Hw (Ck (some ⟨g,0,none⟩) ca (some ⟨q,0,none⟩) co lt lo))/\Below W.heap.size W w')):=hid (fun W hW=>((JO (Ck (some ⟨g,0,none⟩) ca (some ⟨q,0,none⟩) co lt lo) W ((KNZ.out.below hW).st.at KNZ.out.f) KNZ.out.f.wf).mono fun e w' ⟨h1,h2⟩=>⟨_,h1,rfl,h2⟩));have SS':Hid (∀W,Below V5.heap.size V5 W->Ah W (C+1) (.cells #[.int .i64 s.th,.int .i64 s.kind,.int .i64 s.id,.int .i64 s.to,.int .i64 s.cat,.string s.data,.int .i64 s.b1,.slice s.c1.a s.c1.n s.c1.k,.int .i64 s.b2,.slice s.c2.a s.c2.n s.c2.k] 32)):=hid (fun W hW=>SS.out.below hW);have B4':Hid (∀W,Below V5.heap.size V5 W->Ah W P4 (.cells #[.slice ta4 lt4.length ca4,.slice oa4 lo4.length co4] 27)):=hid (fun W hW=>B4.out.below hW);have CC':Hid (∀W,Below V5.heap.size V5 W->Ah W C (.cells #[.slice (some ⟨g,0,none⟩) lt.length ca,.slice (some ⟨q,0,none⟩) lo.length co] 27)):=hid (fun W hW=>CC.out.below hW);clear SS B4 CC KZ KN4 KNZ TX RT1 RT2 RT3 RT4 RT5 OK1 OK2 OK3 OK4 OK5 T U B1 B2 B3 B5 KN1 KN2 KN3 KN5 HZ HN;have DR:=hid ((Below.refl V5.heap.size V5).drew);refine An 31 (fun W=>Below V5.heap.size V5 W) (by kernel_rfl) ?_;refine tq 0 112 (.int .i64 0) DR.out ?_;simp only[ap,List.set];refine tq 1 113 (.bool true) DR.out ?_;simp only[ap,List.set];refine tq 2 114 (.bool true) DR.out ?_;simp only[ap,List.set];refine tq 3 115 (.int .i64 0) DR.out ?_;simp only[ap,List.set];refine tq 4 116 (.bool true) DR.out ?_;simp only[ap,List.set];refine tq 5 117 (.bool true) DR.out ?_;simp only[ap,List.set];refine tq 6 118 (.bool true) DR.out ?_;simp only[ap,List.set];refine tq 7 119 (.string s.data) DR.out ?_;simp only[ap,List.set];refine tq 8 120 (.pointer (some ⟨C+1,5,none⟩)) DR.out ?_;simp only[ap,List.set];refine tq 9 121 (.string s.data) DR.out ?_ (hy:=fun W h=>by obtain⟨z0,z1,z2,z3,z4,z5,z6,z7,z8,z9⟩:=(SS'.out W h).ten;go_simp);simp only[ap,List.set];refine tq 10 122 (.bool true) DR.out ?_;simp only[ap,List.set];refine tq 11 123 (.bool true) DR.out ?_;simp only[ap,List.set];refine tq 12 124 (.bool true) DR.out ?_;simp only[ap,List.set];refine tq 13 125 (.int .i64 0) DR.out ?_;simp only[ap,List.set];refine tq 14 126 (.bool true) DR.out ?_;simp only[ap,List.set];refine tq 15 127 (.bool true) DR.out ?_;simp only[ap,List.set];refine tq 16 128 (.bool true) DR.out ?_;simp only[ap,List.set];refine tq 17 129 (.string Io) DR.out ?_;simp only[ap,List.set];refine tq 18 130 (.bool true) DR.out ?_ (hy:=fun W h=>by simp only[Io];go_simp);simp only[ap,List.set];refine tq 19 131 (.bool true) DR.out ?_;simp only[ap,List.set];refine tq 20 132 (.bool true) DR.out ?_;simp only[ap,List.set];refine tq 21 133 (.int .i64 6) DR.out ?_;simp only[ap,List.set];refine tq 22 134 (.bool true) DR.out ?_;simp only[ap,List.set];refine tq 23 135 (.bool true) DR.out ?_;simp only[ap,List.set];refine tq 24 136 (.bool true) DR.out ?_;simp only[ap,List.set];refine tq 25 137 (.agg #[.slice ta4 lt4.length ca4,.slice oa4 lo4.length co4]) DR.out ?_ (hy:=fun W h=>by obtain⟨z0,z1⟩:=(B4'.out W h).two;go_simp);simp only[ap,List.set];refine tq 27 139 (.agg #[.slice (some ⟨g,0,none⟩) lt.length ca,.slice (some ⟨q,0,none⟩) lo.length co]) DR.out ?_ (hy:=fun W h=>by obtain⟨z0,z1⟩:=(CC'.out W h).two;go_simp);simp only[ap,List.set];refine Ae (i:=26) (by kernel_rfl) rfl ?_;intro K hK;refine Aw (by rfl) 9 _ _ (by rfl) ET.out _ (by rfl) (some 138) (by rfl) _ (X4.out _ DR.out) ?_;rintro v w7 ⟨rfl,hb⟩;have D1:=hid (Af DR.out hb);refine hK.out _ _ (fun _=>D1.out) ?_;clear hK K hb;simp only[ap,List.set];refine Ae (i:=28) (by kernel_rfl) rfl ?_;intro K hK;refine Aw (by rfl) 9 _ _ (by rfl) ET.out _ (by rfl) (some 140) (by rfl) _ (X0.out _ D1.out) ?_;rintro v w7 ⟨rfl,hb⟩;have D2:=hid (Af D1.out hb);refine hK.out _ _ (fun _=>D2.out) ?_;clear hK K hb;simp only[ap,List.set];refine tq 29 141 (.bool true) D2.out ?_;simp only[ap,List.set];refine tq 30 142 (.bool true) D2.out ?_;simp only[ap,List.set];refine Ae (i:=31) (by kernel_rfl) rfl ?_;intro K hK;go_simp;refine hK.out _ _ (fun h=>absurd h (by decide)) ?_;clear hK K;try simp only[ap,List.set]
 refine Ak (by kernel_rfl) ?_ _;go_wp2;go_ret;exact⟨rfl,Af L.out D2.out⟩
open Go.ChangeShapes Go.WideShapes Go.ChangeAt Go.Joins
theorem Tryz.cells9:prog.cellsOf 9=1:=by kernel_rfl
theorem Uz:prog.cellsOf 278=1:=by kernel_rfl
theorem QT: "*" ++ "errors.errorString" = "*errors.errorString" :=by decide
theorem YL(u:TypeId)(h:prog.typeName? 3 u=some "*errors.errorString"):u=259:=
 typeName_ptr_named (nm:= "errors.errorString") (by rw[QT];kernel_rfl) (by kernel_rfl) (by decide) u (by rw[QT];exact h)
def aD(W:World)(n:String)(text:List UInt8)(a:Addr):Prop:=W.var? prog n=some #[.iface 259 (.pointer (some a))]/\(∃s:ByteArray,W.cell? a=some (.string s)/\s.data.toList=text)/\∃ca ta,W.heap[a.block]? =some (.cells ca ta (0,0))
theorem KH{n:String}{text:List UInt8}{r:List (String×DataW Unit)}{W:World}{g:Nat}(h:laidMet prog ((n,.iface "*errors.errorString" (.ptr (.agg [.lit (.string text)])))::r) W)(hg:prog.globalNamed n=some g)(ht:(prog.globals[g]?).map (·.type)=some 49):∃a,aD W n text a:=by
 obtain⟨ps,⟨g0,t0,cs0,f0,p0,q0,hg0,ht0,hv0,hd0,_,e0⟩,_,hrows⟩:=h;obtain rfl:=Option.some.inj (hg.symm.trans hg0);obtain rfl:=Option.some.inj (ht.symm.trans ht0);subst e0;obtain⟨l0⟩:=cs0;have ok0:∀u v,l0=[.iface u v]->Value.okWide prog W .any 0 u v:=fun u v e=>by
  subst e;exact(hrows g 0 (by simp[MemPlace.row])).2 u v (by simpa using World.var?_cell hg0 hv0 0)
 obtain⟨a0,s0,rfl,hc0,hs0,hz0,rfl⟩:=errorString_of_trod underlying49 YL underlying259 underlying278 rfl rfl underlying9 Uz Tryz.cells9 hd0 ok0;exact⟨a0,hv0,⟨s0,hc0,hs0⟩,(hrows a0.block a0.off (by simp[MemPlace.row])).1⟩
theorem FU{W:World}{n m:String}{x y:List UInt8}{a b:Addr}(h:aD W n x a)(k:aD W m y b)(d:x≠y):a≠b:=fun e=>by
 obtain⟨s,h1,h2⟩:=h.2.1;obtain⟨t,k1,k2⟩:=k.2.1;subst e;rw[h1]at k1;cases k1;exact d (h2.symm.trans k2)
theorem Tx{W:World}{n:String}{g:Nat}{cs:Array Value}(hg:prog.globalNamed n=some g)(h:W.var? prog n=some cs):g<W.heap.size:=by
 by_cases e:g<W.heap.size
 ·exact e
 ·simp only[World.var?,hg,Option.bind_some]at h;rw[Array.getElem?_eq_none (by omega)]at h;cases h
theorem Dn{W W':World}{n:String}{g:Nat}{cs:Array Value}(hg:prog.globalNamed n=some g)(h:W.var? prog n=some cs)(bel:Below W.heap.size W W'):W'.var? prog n=some cs:=by
 have h0:=Tx hg h;unfold World.var? at h ⊢;simp only[hg,Option.bind_some]at h ⊢;rw[bel.block g h0];exact h
theorem FE{W:World}{n:String}{x:List UInt8}{a:Addr}{g:Nat}(hg:prog.globalNamed n=some g)(h:aD W n x a):W.cell? ⟨g,0,none⟩=some (.iface 259 (.pointer (some a)))/\g<W.heap.size:=⟨by simpa using World.var?_cell hg h.1 0,Tx hg h.1⟩
theorem aB:prog.globalNamed "loop.example/g00272/impl.errWrong" =some 0:=by kernel_rfl
theorem aZ:(prog.globals[0]?).map (·.type)=some 49:=by kernel_rfl
theorem aG:prog.globalNamed "loop.example/g00272/impl.errForm" =some 1:=by kernel_rfl
theorem aT:(prog.globals[1]?).map (·.type)=some 49:=by kernel_rfl
theorem aL:prog.globalNamed "loop.example/g00272/impl.errThread" =some 2:=by kernel_rfl
theorem aV:(prog.globals[2]?).map (·.type)=some 49:=by kernel_rfl
theorem aH:prog.globalNamed "loop.example/g00272/impl.errMade" =some 4:=by kernel_rfl
theorem aW:(prog.globals[4]?).map (·.type)=some 49:=by kernel_rfl
theorem aC:prog.globalNamed "loop.example/g00272/impl.errOwns" =some 5:=by kernel_rfl
theorem aR:(prog.globals[5]?).map (·.type)=some 49:=by kernel_rfl
theorem aF:prog.globalNamed "loop.example/g00272/impl.errKind" =some 6:=by kernel_rfl
theorem aX:(prog.globals[6]?).map (·.type)=some 49:=by kernel_rfl
theorem aJ:prog.globalNamed "loop.example/g00272/impl.errRoot" =some 7:=by kernel_rfl
theorem bf:(prog.globals[7]?).map (·.type)=some 49:=by kernel_rfl
theorem aI:prog.globalNamed "loop.example/g00272/impl.errChange" =some 8:=by kernel_rfl
theorem aS:(prog.globals[8]?).map (·.type)=some 49:=by kernel_rfl
theorem aK:prog.globalNamed "loop.example/g00272/impl.errFlow" =some 9:=by kernel_rfl
theorem aY:(prog.globals[9]?).map (·.type)=some 49:=by kernel_rfl
theorem Yi:prog.globalNamed "loop.example/g00272/impl.errOwn" =some 10:=by kernel_rfl
theorem Z9:(prog.globals[10]?).map (·.type)=some 49:=by kernel_rfl
theorem Yw:prog.globalNamed "loop.example/g00272/impl.errSee" =some 11:=by kernel_rfl
theorem ZT:(prog.globals[11]?).map (·.type)=some 49:=by kernel_rfl
theorem YB:prog.globalNamed "loop.example/g00272/impl.errItems" =some 12:=by kernel_rfl
theorem aj:(prog.globals[12]?).map (·.type)=some 49:=by kernel_rfl
theorem Yx:prog.globalNamed "loop.example/g00272/impl.errNone" =some 13:=by kernel_rfl
theorem av:(prog.globals[13]?).map (·.type)=some 49:=by kernel_rfl
def Nr:List (String×DataW Unit):=[("math/bits.deBruijn32tab",Rows.laid_math_bits_deBruijn32tab),("math/bits.deBruijn64tab",Rows.laid_math_bits_deBruijn64tab),("internal/strconv.uint64pow10",Lib.tabData .u64 Lib.pow10Tab),("loop.example/g00272/impl.errWrong",Rows.laid_loop_example_g00272_impl_errWrong),("loop.example/g00272/impl.errForm",Rows.laid_loop_example_g00272_impl_errForm),("loop.example/g00272/impl.errThread",Rows.laid_loop_example_g00272_impl_errThread),("loop.example/g00272/impl.errKind",Rows.laid_loop_example_g00272_impl_errKind),("loop.example/g00272/impl.errRoot",Rows.laid_loop_example_g00272_impl_errRoot),("loop.example/g00272/impl.errSee",Rows.laid_loop_example_g00272_impl_errSee),("loop.example/g00272/impl.errChange",Rows.laid_loop_example_g00272_impl_errChange),("loop.example/g00272/impl.errFlow",Rows.laid_loop_example_g00272_impl_errFlow),("loop.example/g00272/impl.errOwn",Rows.laid_loop_example_g00272_impl_errOwn),("loop.example/g00272/impl.errMade",Rows.laid_loop_example_g00272_impl_errMade),("loop.example/g00272/impl.errOwns",Rows.laid_loop_example_g00272_impl_errOwns),("loop.example/g00272/impl.errItems",Rows.laid_loop_example_g00272_impl_errItems),("loop.example/g00272/impl.errNone",Rows.laid_loop_example_g00272_impl_errNone)]
theorem Tryz.g14:prog.globalNamed "internal/strconv.uint64pow10" =some 14:=by kernel_rfl
theorem Tryz.g14t:(prog.globals[14]?).map (·.type)=some 247:=by kernel_rfl
theorem Tryz.cells247:prog.cellsOf 247=20:=by kernel_rfl
theorem Tryz.et:prog.globalNamed "errors.errorType" =some 3:=by kernel_rfl
theorem Tryz.rt:(prog.cutTypes.find? (·.1== "internal/reflectlite.rtype")).map (·.2)=some 132:=by kernel_rfl
theorem Tryz.oneRow:((List.range 290).filter fun t=>prog.rowNamed t [101,114,114,111,114])=[49]:=by kernel_rfl
theorem Tryz.tsize:prog.types.size=290:=by kernel_rfl
theorem Tryz.hand:typeHandle prog 49= .pointer (some ⟨18,49,none⟩):=by kernel_rfl
theorem US{W:World}(h:handlesMet prog [("errors.errorType",Rows.laid_errors_errorType)] W):W.var? prog "errors.errorType" =some #[.iface 132 (.agg #[.pointer (some ⟨18,49,none⟩)])]:=by
 obtain⟨name,u,ty,e1,e2,e3,e4,e5⟩:=h _ (List.mem_singleton.2 rfl);have en:name=[101,114,114,111,114]:=(Option.some.inj e1).symm;subst en;obtain rfl:=Option.some.inj (Tryz.rt.symm.trans e2);have hm:ty∈(List.range 290).filter fun t=>prog.rowNamed t [101,114,114,111,114]:=List.mem_filter.2 ⟨List.mem_range.2 (by rw[<-Tryz.tsize];exact e3),e4⟩;rw[Tryz.oneRow]at hm;obtain rfl:=List.mem_singleton.1 hm;rw[Tryz.hand]at e5;exact e5
theorem aQ{W:World}(h:laidMet prog Nr W):17<W.heap.size:=by
 obtain⟨ps,⟨g0,t0,cs0,f0,p0,q0,hg0,ht0,hv0,_⟩,_⟩:=h.tail;have e:g0=17:=Option.some.inj (hg0.symm.trans (show prog.globalNamed "math/bits.deBruijn64tab" =some 17 by kernel_rfl));rw[<-e];exact Tx hg0 hv0
def Es(a0 a1 a2 a4 a5 a6 a7 a8 a9 a10 a11 a12 a13:Addr):Nat->Addr
 |0=>a0
 |1=>a1
 |2=>a2
 |4=>a4
 |5=>a5
 |6=>a6
 |7=>a7
 |8=>a8
 |9=>a9
 |10=>a10
 |11=>a11
 |12=>a12
 |13=>a13
 |_=>a0
theorem XB{W:World}(hk:laidMet prog Nr W/\handlesMet prog [("errors.errorType",Rows.laid_errors_errorType)] W):∃E:Nat->Addr,Vx W E/\W.var? prog "loop.example/g00272/impl.errWrong" =some #[.iface 259 (.pointer (some (E 0)))]/\W.var? prog "loop.example/g00272/impl.errForm" =some #[.iface 259 (.pointer (some (E 1)))]/\W.var? prog "loop.example/g00272/impl.errThread" =some #[.iface 259 (.pointer (some (E 2)))]/\W.var? prog "loop.example/g00272/impl.errMade" =some #[.iface 259 (.pointer (some (E 4)))]/\W.var? prog "loop.example/g00272/impl.errOwns" =some #[.iface 259 (.pointer (some (E 5)))]/\W.var? prog "loop.example/g00272/impl.errKind" =some #[.iface 259 (.pointer (some (E 6)))]/\W.var? prog "loop.example/g00272/impl.errChange" =some #[.iface 259 (.pointer (some (E 8)))]/\W.var? prog "loop.example/g00272/impl.errFlow" =some #[.iface 259 (.pointer (some (E 9)))]/\W.var? prog "loop.example/g00272/impl.errOwn" =some #[.iface 259 (.pointer (some (E 10)))]/\W.var? prog "loop.example/g00272/impl.errRoot" =some #[.iface 259 (.pointer (some (E 7)))]/\W.var? prog "loop.example/g00272/impl.errSee" =some #[.iface 259 (.pointer (some (E 11)))]/\W.var? prog "loop.example/g00272/impl.errItems" =some #[.iface 259 (.pointer (some (E 12)))]/\W.var? prog "loop.example/g00272/impl.errNone" =some #[.iface 259 (.pointer (some (E 13)))]:=by
 obtain⟨h,k⟩:=hk;have hh:=US k;have LT:=aQ h;have hT:TZ W:=Lib.tabIs_of_head Tryz.g14 Tryz.g14t underlying247 underlying158 (by kernel_rfl) Tryz.cells247 h.tail.tail;have t:=h.tail.tail.tail;obtain⟨a0,s0⟩:=KH t aB aZ;replace t:=t.tail;obtain⟨a1,s1⟩:=KH t aG aT;replace t:=t.tail;obtain⟨a2,s2⟩:=KH t aL aV;replace t:=t.tail;obtain⟨a6,s6⟩:=KH t aF aX;replace t:=t.tail;obtain⟨a7,s7⟩:=KH t aJ bf;replace t:=t.tail;obtain⟨a11,s11⟩:=KH t Yw ZT;replace t:=t.tail;obtain⟨a8,s8⟩:=KH t aI aS;replace t:=t.tail;obtain⟨a9,s9⟩:=KH t aK aY;replace t:=t.tail;obtain⟨a10,s10⟩:=KH t Yi Z9;replace t:=t.tail;obtain⟨a4,s4⟩:=KH t aH aW;replace t:=t.tail;obtain⟨a5,s5⟩:=KH t aC aR;replace t:=t.tail;obtain⟨a12,s12⟩:=KH t YB aj;replace t:=t.tail;obtain⟨a13,s13⟩:=KH t Yx av;clear t h k;refine⟨Es a0 a1 a2 a4 a5 a6 a7 a8 a9 a10 a11 a12 a13,⟨fun i h1 h2=>?_,⟨fun i h1 h2 h3=>?_,fun i h1 h2=>?_,by simpa using World.var?_cell Tryz.et hh 0,LT⟩,hT⟩,s0.1,s1.1,s2.1,s4.1,s5.1,s6.1,s8.1,s9.1,s10.1,s7.1,s11.1,s12.1,s13.1⟩
 ·match i,h1,h2 with
  |0,_,_=>exact FE aB s0
  |1,_,_=>exact FE aG s1
  |2,_,_=>exact FE aL s2
  |3,_,h=>exact absurd rfl h
  |4,_,_=>exact FE aH s4
  |5,_,_=>exact FE aC s5
  |6,_,_=>exact FE aF s6
  |7,_,_=>exact FE aJ s7
  |8,_,_=>exact FE aI s8
  |9,_,_=>exact FE aK s9
  |10,_,_=>exact FE Yi s10
  |11,_,_=>exact FE Yw s11
  |12,_,_=>exact FE YB s12
  |13,_,_=>exact FE Yx s13
  |i+14,h,_=>exact absurd h (by omega)
 ·match i,h1,h2,h3 with
  |0,_,_,h=>exact absurd rfl h
  |1,_,_,_=>exact FU s1 s0 (by decide)
  |2,_,_,_=>exact FU s2 s0 (by decide)
  |3,_,h,_=>exact absurd rfl h
  |4,_,_,_=>exact FU s4 s0 (by decide)
  |5,_,_,_=>exact FU s5 s0 (by decide)
  |6,_,_,_=>exact FU s6 s0 (by decide)
  |7,_,_,_=>exact FU s7 s0 (by decide)
  |8,_,_,_=>exact FU s8 s0 (by decide)
  |9,_,_,_=>exact FU s9 s0 (by decide)
  |10,_,_,_=>exact FU s10 s0 (by decide)
  |11,_,_,_=>exact FU s11 s0 (by decide)
  |12,_,_,_=>exact FU s12 s0 (by decide)
  |13,_,_,_=>exact FU s13 s0 (by decide)
  |i+14,h,_,_=>exact absurd h (by omega)
 ·match i,h1,h2 with
  |0,_,_=>exact s0.2.2
  |1,_,_=>exact s1.2.2
  |2,_,_=>exact s2.2.2
  |3,_,h=>exact absurd rfl h
  |4,_,_=>exact s4.2.2
  |5,_,_=>exact s5.2.2
  |6,_,_=>exact s6.2.2
  |7,_,_=>exact s7.2.2
  |8,_,_=>exact s8.2.2
  |9,_,_=>exact s9.2.2
  |10,_,_=>exact s10.2.2
  |11,_,_=>exact s11.2.2
  |12,_,_=>exact s12.2.2
  |13,_,_=>exact s13.2.2
  |i+14,h,_=>exact absurd h (by omega)
theorem Tryz.ownKnob:Go.ownKnob prog.godebug=none:=by kernel_rfl
theorem Tryz.laidOut:laidOutB prog=true:=by kernel_rfl
theorem XS{w:World}{b o:Nat}{v:Value}(h:w.cell? ⟨b,o,none⟩=some v):b<w.heap.size:=by
 apply Nat.lt_of_not_le;intro hle;have:w.heap[b]? =none:=Array.getElem?_eq_none hle;simp[World.cell?,this]at h
theorem Tryz.cells5:prog.cellsOf 5=1:=by kernel_rfl
theorem Qb{H:Type}{enc:TypeId×Value->H}{W:World}{base:Nat}{v1:Value}{d1:DataW H}{p1:List MemPlace}(hval:Value.okWide prog W .any base 22 v1)(h1:DataW.Trod enc prog W 0 (fun _=>true) true 22 v1 d1 p1):
 ∃a n cap,v1= .slice a n cap/\BytesAt W a n:=by
 obtain⟨a1,len,cap,rfl⟩:=okWide_slice underlying22 hval;obtain⟨fuel,hf⟩:=h1;rcases open_ints underlying22 underlying5 Tryz.cells5 hf with⟨hcs,hx⟩|⟨a,len',cap',zs,hcs,_,hl,hm,hz,hx,hcell,hwz⟩
 ·simp[Value.cells]at hcs;obtain⟨rfl,rfl,rfl⟩:=hcs;exact⟨none,0,0,rfl,fun h=>by omega⟩
 ·simp[Value.cells]at hcs;obtain⟨rfl,rfl,rfl⟩:=hcs;simp only[if_true]at hz;obtain⟨ab,ao,spot⟩:=a;refine⟨_,_,_,rfl,fun h0=>?_⟩;have hspot:spot=none:=by simpa[Addr.add]using World.cell?_spot (hcell 0 (by omega))
  subst hspot;have h00:=hcell 0 (by omega);rw[Addr.add_lit]at h00;refine⟨ab,ao,rfl,XS h00,fun i hi=>?_⟩;have hi':=hcell i (by omega);rw[Addr.add_lit]at hi';have hb:=range_u8 hwz i;rw[List.getD_eq_getElem?_getD]at hi';exact⟨_,hi',hb.1,by omega⟩
end Go.Proofs.YtphddbnadcjhgaaGreatDoor
