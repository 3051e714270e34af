import Derived.Test.YtbdagpckhfcneaaGreatDoorRows
import Derived.ChangeSame
import Derived.ChangeVars
import Derived.JoinedOf
import Derived.LaidLaws
import Derived.LaidHandle
import Derived.Stop.LaidErr
import Derived.Lib.LaidTab
import Derived.Deep.DeepLaidRun
import Derived.SevenTiedAt
import Derived.Lib.SmallJoins
import Derived.OpenShut
import Derived.ShutString
import Derived.ChangeOld
import Derived.ChangeMaps5
import Derived.Deep.SlicePairs
import Derived.Test.YtbdagpckhfcneaaGreatDoorZ36r
import Derived.Test.YtbdagpckhfcneaaGreatDoorZ40r
set_option maxRecDepth 100000
set_option maxHeartbeats 16000000
namespace Go.Proofs.YtbdagpckhfcneaaGreatDoor
open Go Go.RowKit Go.Deep Go.Maps Go.BigFrame Go.Shelf Go.Proofs.Tryz
theorem MY(c d:Aw)(w:World)(h:c.same d)(hl:c.n<=1048576)(hc:EJ w c.a c.n c.f)(hd:EJ w d.a d.n d.f):
 Calls prog 22 #[d,c] w fun e w'=>e= .returned (.bool true)/\Below w w w':=by
 obtain⟨h1,h2⟩:=h;obtain⟨ca,cn,ck,cf⟩:=c;obtain⟨da,dn,dk,df⟩:=d;simp only at h1 h2 hl hc hd;subst h1 h2;exact Oq da ca dn dk ck df w hl hd hc
theorem MQ(c d:Aw)(w:World)(hl:d.n<=1048576)(hc:EJ w c.a c.n c.f)(hd:EJ w d.a d.n d.f):
 Calls prog 22 #[d,c] w fun e w'=>∃r:Bool,e= .returned (.bool r)/\Below w w w':=N0 d.a c.a d.n c.n d.k c.k d.f c.f w hl hd hc
theorem Tr(b:Int)(c d:Aq)(w:World)(h:c.same d)(hl:c.n<=1048576)(hc:c.at w)(hd:d.at w):
 Calls prog 16 #[.agg #[.int .i64 b,d],.agg #[.int .i64 b,c]] w fun e w'=>e= .returned (.bool true)/\Below w w w':=by
 obtain⟨h1,h2,h3⟩:=h;obtain⟨ca,cn,ck,cf,cg⟩:=c;obtain⟨da,dn,dk,df,dg⟩:=d;simp only at h1 h2 h3 hl;subst h1 h2 h3;exact Xn b da ca dn dk ck df dg w hl hd.2 hc.2
theorem Oz(E:Nat->Addr)(a:Option Addr)(n cap:Nat)(w:World)(hb:1048576<n∨BytesAt w a n)(hv:VO w E):
 Calls prog 5 #[.slice a n cap] w fun e w'=>e= .returned (.bool true)/\Below w w w':=by
 have HB:=hid hb;have HV:=hid hv;clear hb hv;go_enter func5,ntmps5
 go_wp2_with fail
 refine(Ze a n cap w).mono ?_;rintro e w0 ⟨rfl,rfl⟩;by_cases hbig:1048576<n
 ·have e1:decide (1048576<n)=true:=decide_eq_true hbig;rw[e1];go_wp2;go_ret;exact⟨rfl,Below.refl _ _⟩
 have e1:decide (1048576<n)=false:=decide_eq_false hbig;rw[e1];clear e1;go_wp2_with fail
 refine(Qh a n cap w0 (by omega) (HB.out.resolve_left hbig)).mono ?_;rintro e w1 ⟨lt,lo,g,ca,q,co,s,rfl,ks,kd,hs,b1⟩;have n9:Na #[.slice g lt.length ca,.slice q lo.length co]:=⟨⟩;have n15:Nw (w1.alloc (.cells n9 27)):=⟨⟩;have b2:Below w1 w1 ((n15:World).alloc (.cells s 32)):=(Bd w1 _).alloc (by simp) _;have n7:Na s:=⟨⟩;have n3:Nw ((n15:World).alloc (.cells n7 32)):=⟨⟩;have KNs:Hid (Kn w0 n3 lt lo (some ⟨g,0,none⟩) (some ⟨q,0,none⟩) ca co):=hid ⟨(ks.below b2).f,kd.F⟩;have n13:Nv (.slice g lt.length ca):=⟨⟩;have n14:Nv (.slice q lo.length co):=⟨⟩;have KSs:Hid (Bz n3 w0 n13 n14 lt lo):=hid (ks.below b2);have IDR:=hid hs.2.2.2;have SAs:Hid (s.at n3):=hid ⟨(hs.1.below b2).1,(hs.2.1.below b2).1,Nat.le_trans hs.2.2.1 (by unfold maxLen;omega)⟩;have LB:Hid (Below w0 w0 n3):=hid (Af b1 b2);have CB:Hid (Ag n3 w1 (.cells n9 27)):=hid ((Ag.new w1 _).alloc _);have SB:Hid (Ag n3 (w1.heap.size+1) (.cells n7 32)):=hid (by have:=Ag.new n15 (.cells n7 32);simpa using this);clear ks kd hs b1 b2 HB hbig;go_upto_region 4 with fail
 generalize (n3:World)=W2 at *;generalize w1.heap.size=C at *;have DN:Hid (Calls prog 9 #[.agg n9,.agg n7] W2 fun e w'=>ah (BQ (some ⟨g,0,none⟩) ca (some ⟨q,0,none⟩) co lt lo) s W2 e w'):=hid (KNs.out.done (Xz E s) SAs (HV.out.below LB));obtain⟨k0,k1⟩:=CB.out.two;obtain⟨s0,s1,s2,s3,s4,s5,s6,s7,s8,s9⟩:=SB.out.jE;go_wp2_with fail
 refine DN.out.mono ?_;rintro e w4 ⟨lt',lo',ta,oa,ca',co',c,tx,rfl,kf4,ap4,rt4,hb4⟩;clear DN k0 k1 s0 s1 s2 s3 s4 s5 s6 s7 s8 s9;have RT:=hid rt4;have n10:No (.cells #[.slice ta lt'.length ca',.slice oa lo'.length co'] 27):=⟨⟩;have b4:Below w4 w4 (w4.alloc n10):=Bd w4 _;have KA:=hid (kf4.below b4);have NB:=hid (Ag.new w4 n10);have D5:=hid (Af hb4 b4);clear kf4 ap4 rt4 hb4 b4;have SN:Hid (Calls prog 10 #[.agg n9,.agg n7] (w4.alloc n10) fun e w'=>ZX (BQ (some ⟨g,0,none⟩) ca (some ⟨q,0,none⟩) co lt lo) s (w4.alloc n10) e w'):=hid ((KNs.out.below D5).spec (SAs.out.below D5));obtain⟨k0,k1⟩:=(CB.out.below D5).two;obtain⟨s0,s1,s2,s3,s4,s5,s6,s7,s8,s9⟩:=(SB.out.below D5).jE;go_wp2_with fail
 generalize w4.alloc n10=W5 at *;generalize w4.heap.size=Q at *;refine SN.out.mono ?_;rintro e w6 ⟨lt2,lo2,ta2,oa2,ca2,co2,c2,tx2,rfl,kf6,rt6,hb6⟩;obtain⟨ec,etx,_,_⟩:=SE RT rt6;subst ec;subst etx;clear SN k0 k1 s0 s1 s2 s3 s4 s5 s6 s7 s8 s9;have RT2:=hid rt6;have n11:No (.cells #[.slice ta2 lt2.length ca2,.slice oa2 lo2.length co2] 27):=⟨⟩;have b6:Below w6 w6 (w6.alloc n11):=Bd w6 _;have KM6:=hid (kf6.below b6);have MB:=hid (Ag.new w6 n11);have A7:=hid (KA.out.below (Af hb6 b6));have N7:=hid (NB.out.below (Af hb6 b6));have D7:=hid (Af D5 (Af hb6 b6));clear hb6 b6 KA NB D5 kf6 rt6;go_upto_region 6 with fail
 generalize w6.alloc n11=U at *;generalize w6.heap.size=R at *;have BK:Hid (∀W,Below U U W->Ag W C (.cells n9 27)):=hid (fun W hW=>(CB.out.below D7).below hW);have BS:Hid (∀W,Below U U W->Ag W (C+1) (.cells s 32)):=hid (fun W hW=>(SB.out.below D7).below hW);have BN:Hid (∀W,Below U U W->Ag W Q n10):=hid (fun W hW=>N7.out.below hW);have BM:Hid (∀W,Below U U W->Ag W R n11):=hid (fun W hW=>MB.out.below hW);have KK:Hid (∀W,Below U U W->Kn w0 W lt lo (some ⟨g,0,none⟩) (some ⟨q,0,none⟩) ca co):=hid (fun W hW=>(KNs.out.below D7).below hW);have KS:Hid (∀W,Below U U W->Bz W w0 n13 n14 lt lo):=hid (fun W hW=>(KSs.out.below D7).below hW);have NN:Hid (∀W,Below U U W->He W W2 (.slice ta lt'.length ca') (.slice oa lo'.length co') lt' lo'):=hid (fun W hW=>A7.out.below hW);have MM:Hid (∀W,Below U U W->He W W5 (.slice ta2 lt2.length ca2) (.slice oa2 lo2.length co2) lt2 lo2):=hid (fun W hW=>KM6.out.below hW);have SA:Hid (∀W,Below U U W->s.at W):=hid (fun W hW=>(SAs.out.below D7).below hW);have LU:Hid (Below w0 w0 U):=hid (Af LB D7);have KF:=hid (KK.out _ (Below.refl _ _)).f;clear CB SB N7 MB KNs KSs A7 KM6 SAs D7 LB;have DU:Hid (Below U U U):=hid (Below.refl U U);have n0:(c2 != c2)=false:=by simp
 have n1:(c2==c2)=true:=by simp
 obtain⟨s0,s1,s2,s3,s4,s5,s6,s7,s8,s9⟩:=(BS _ DU).jE;by_cases hc:c2=0;rotate_left
 ·have n2:(c2 != 0)=true:=by simpa using hc
  go_wp2;go_ret;exact⟨rfl,LU⟩
 subst hc;by_cases h0:s.id=0
 ·have i0:(s.id==0)=true:=by simpa using h0
  go_wp2;go_ret;exact⟨rfl,LU⟩
 have i0:(s.id==0)=false:=by simpa using h0
 have ok:okL lt lo=true:=by
  cases e:okL lt lo with
  |true=>rfl
  |false=>exact absurd (RI RT e).1 (by decide)
 have OK:=hid ok;have FN:=hid (Sg (RT.out.ok2 ok));have RQ:Hid (∀i,i<lo.length->∀y t,(IB (BQ ta ca' oa co' lt' lo') (Aa lo i).id).same y->(Jr (BQ (some ⟨g,0,none⟩) ca (some ⟨q,0,none⟩) co lt lo) s.th).same t->WW t s (Aa lo i) y (Hn (BQ ta ca' oa co' lt' lo') (Aa lo i).id).isSome):=hid (fun i hi y t hy ht=>bf RT ok h0 hi hy ht);have RO:Hid (∀o t,(IB (BQ (some ⟨g,0,none⟩) ca (some ⟨q,0,none⟩) co lt lo) s.id).same o->(Jr (BQ (some ⟨g,0,none⟩) ca (some ⟨q,0,none⟩) co lt lo) s.th).same t->(Hn (BQ (some ⟨g,0,none⟩) ca (some ⟨q,0,none⟩) co lt lo) s.id).isSome=true/\(s.kind=7->tx2=o.data)/\(s.kind≠11->Fb t o.b1 o.c1=true)):=hid (fun o t ho ht=>bg RT ok h0 ho ht);have RF:Hid (∀o t,(IB (BQ (some ⟨g,0,none⟩) ca (some ⟨q,0,none⟩) co lt lo) s.id).same o->(Jr (BQ (some ⟨g,0,none⟩) ca (some ⟨q,0,none⟩) co lt lo) s.th).same t->JH t/\Ba o.b1 o.c1.n o.c1.f o.c1.g=true):=hid (fun o t ho ht=>aU RT ok h0 ho ht);have THR:Hid (∀W,Below U U W->Calls prog 14 #[.agg n9,s.th] W fun e w'=>∃(t:Ae) (b:Bool),e= .returned (.tuple #[.agg t,.bool b])/\(Jr (BQ (some ⟨g,0,none⟩) ca (some ⟨q,0,none⟩) co lt lo) s.th).same t/\t.new W w'/\Below W W w'):=hid (fun W hW=>(KH (BQ (some ⟨g,0,none⟩) ca (some ⟨q,0,none⟩) co lt lo) s.th W ((KK W hW).st.at (KK W hW).f) ((KK W hW).f.small _ _ _ _) (KK W hW).cap (KK W hW).f.wf).mono fun e w' ⟨t,e1,h1,h2,_,h3⟩=>⟨t,_,e1,h1,h2,h3⟩);have SOMEO:Hid (∀W,Below U U W->Calls prog 15 #[.agg n9,s.id] W fun e w'=>∃o:Ab,e= .returned (.tuple #[.agg o,.bool true])/\(IB (BQ (some ⟨g,0,none⟩) ca (some ⟨q,0,none⟩) co lt lo) s.id).same o/\o.new W w'/\Below W W w'):=hid (fun W hW=>((KK W hW).obj (MW IDR)).mono fun e w' ⟨o,e1,h1,h2,_,h3⟩=>⟨o,by rw[e1,(RO.out _ _ (Ab.same.refl _) (Ae.same.refl _)).1];rfl,h1,h2,h3⟩);clear ok BM MM RT2 h0;obtain⟨k0,k1⟩:=(BK _ DU).two;go_wp2_with fail
 refine(THR _ DU).mono ?_;rintro e w8 ⟨t,tb,rfl,st,tn,hb8⟩;have n6:Na t:=⟨⟩;have b8:=Af hb8 (Bd w8 (.cells n6 42));have ST:=hid st;have V9:=hid (Af DU b8);have BT9:=hid (Ag.new w8 (.cells n6 42));have TN:=hid (tn.below (Bd w8 (.cells n6 42)));clear st tn hb8 b8 k0 k1 s0 s1 s2 s3 s4 s5 s6 s7 s8 s9 n0 n1 i0 THR DU;go_upto_region 9 with fail
 generalize w8.alloc (.cells n6 42)=W9 at *;generalize w8.heap.size=TB at *;obtain⟨k0,k1⟩:=(BK _ V9).two;obtain⟨s0,s1,s2,s3,s4,s5,s6,s7,s8,s9⟩:=(BS _ V9).jE;go_wp2_with fail
 refine(SOMEO _ V9).mono ?_;rintro e w10 ⟨o,rfl,so,on,hb⟩;have n4:No (.cells o 47):=⟨⟩;have b10:=Af hb ((Below.refl _ w10).alloc nr n4);have V11:=hid (Af V9 b10);have BT11:=hid (BT9.out.below b10);have TN11:=hid (TN.out.below b10);have BO11:=hid (Ag.new w10 n4);have ON:=hid (on.below ((Below.refl _ w10).alloc nr n4));have RO1:=hid (RO.out o t so ST);have TF:=hid (RF.out o t so ST).1;have OL:=hid (RF.out o t so ST).2;clear so on hb b10 k0 k1 s0 s1 s2 s3 s4 s5 s6 s7 s8 s9 BT9 TN V9 SOMEO RO RF;go_upto_region 10 with fail
 generalize w10.alloc n4=W11 at *;generalize w10.heap.size=OB at *;have UU:Hid (∀W,Below W11 W11 W->Below U U W):=hid (fun W hW=>Af V11 hW);have BT:Hid (∀W,Below W11 W11 W->Ag W TB (.cells n6 42)):=hid (fun W hW=>BT11.out.below hW);have BO:Hid (∀W,Below W11 W11 W->Ag W OB n4):=hid (fun W hW=>BO11.out.below hW);have TA:Hid (∀W,Below W11 W11 W->t.at W):=hid (fun W hW=>(TN11.out.below hW).at);have SEE:Hid (s.kind≠11->∀W,Below W11 W11 W->Calls prog 21 #[.agg n6,.agg #[o.b1,o.c1]] W fun e w'=>e= .returned (.bool true)/\Below W W w'):=hid (fun hk W hW=>by
  have h:=XZ (TA W hW) (ON.out.below hW).1.1 TF OL.out;rw[RO1.out.2.2 hk]at h;exact h)
 have D0:=hid (Below.refl W11 W11);clear V11 BT11 TN11 BO11 ON OL;obtain⟨z0,z1,z2,z3,z4,z5,z6⟩:=(BT _ D0).seven;obtain⟨o0,o1,o2,o3,o4,o5,o6,o7,o8,o9⟩:=(BO _ D0).jE;obtain⟨s0,s1,s2,s3,s4,s5,s6,s7,s8,s9⟩:=(BS _ (UU _ D0)).jE;go_cut[3,4,5,11,14,89] from 11 (fun a b c d e f wc=>a= .pointer C/\b= .pointer (some ⟨C+1,0,none⟩)/\c= .pointer Q/\d= .pointer TB/\e= .bool true/\f= .bool false/\Below W11 W11 wc)
 case first=>
  by_cases h7:s.kind=7
  ·have k7:(s.kind==7)=true:=(by rw[h7];rfl);have k11:(s.kind != 11)=true:=(by rw[h7];rfl);have nt:(!tx2.toList==o.data.toList)=false:=(by rw[RO1.out.2.1 h7];simp);have h11:s.kind≠11:=(by omega);go_wp2_with fail
   refine(SEE h11 _ D0).mono ?_;rintro e w12 ⟨rfl,hb⟩;go_wp2_with fail
   go_meet;case rel=>exact⟨rfl,rfl,rfl,rfl,rfl,rfl,Af D0 hb⟩
  ·have k7:(s.kind==7)=false:=(by simpa using h7);by_cases h11:s.kind=11
   ·have k11:(s.kind != 11)=false:=(by rw[h11];rfl);go_wp2_with fail
    go_meet;case rel=>exact⟨rfl,rfl,rfl,rfl,rfl,rfl,D0⟩
   ·have k11:(s.kind != 11)=true:=(by simpa using h11);go_wp2_with fail
    refine(SEE h11 _ D0).mono ?_;rintro e w12 ⟨rfl,hb⟩;go_wp2_with fail
    go_meet;case rel=>exact⟨rfl,rfl,rfl,rfl,rfl,rfl,Af D0 hb⟩
 case rest=>
 obtain⟨rfl,rfl,rfl,rfl,rfl,rfl,be0⟩:=hcut;have D1:=hid be0;clear be0 D0 SEE RO1 BO s0 s1 s2 s3 s4 s5 s6 s7 s8 s9 o0 o1 o2 o3 o4 o5 o6 o7 o8 o9 z0 z1 z2 z3 z4 z5 z6;go_wp2_with fail
 go_loopw [15] (fun i wr=>∃j:Nat,j<=lo.length/\i= .int .i64 j/\Below W11 W11 wr) (fun i _=>lo.length-(intOf i).toNat)
 case atStart=>exact⟨0,Nat.zero_le _,rfl,D1⟩
 case round=>
  clear D1;obtain⟨j,hj,rfl,be⟩:=hrel;have BB:=hid be;clear be;obtain⟨k0,k1⟩:=(BK _ (UU _ BB)).two;by_cases hlt:j<lo.length
  ·have i2:(j:Int)<(lo.length:Int):=(by omega);have i3:(0:Int)<=(j:Int):=(by omega);have HLT:=hid hlt;obtain⟨x,ex⟩:∃x,x=Aa lo j:=⟨_,rfl⟩;have eg:lo[j]=x:=(ex.trans (Ap hlt)).symm;have xm:x∈lo:=(by rw[<-eg];exact List.getElem_mem hlt);have XN:Hid (∀W,Below U U W->x.c1.at W/\EJ W x.jA.a x.jA.n x.jA.f):=hid (fun W hW=>⟨((KS W hW).on x xm).1.1,((KS W hW).on x xm).2.1.1.2.1⟩);have XS:Hid (x.c1.n<=1048576/\x.jA.n<=1048576):=hid ⟨(KF.out.o x xm).1.1,(KF.out.o x xm).1.2.2.1.1⟩;have XL:=hid (DW OK x xm).l1;have XQ:Hid (∀y,(IB (BQ ta ca' oa co' lt' lo') x.id).same y->WW t s x y (Hn (BQ ta ca' oa co' lt' lo') x.id).isSome):=hid (by rw[ex];exact fun y hy=>RQ j hlt y t hy ST);have YN:Hid (∀W,Below U U W->Calls prog 15 #[.agg #[.slice ta lt'.length ca',.slice oa lo'.length co'],x.id] W fun e w'=>∃y:Ab,e= .returned (.tuple #[.agg y,.bool (Hn (BQ ta ca' oa co' lt' lo') x.id).isSome])/\(IB (BQ ta ca' oa co' lt' lo') x.id).same y/\y.new W w'/\Below W W w'):=hid (fun W hW=>(Ht (BQ ta ca' oa co' lt' lo') x.id W ((NN W hW).at FN.out) (FN.out.small ta oa ca' co') (Dj (NN W hW).o).1 FN.out.wf (by rw[ex];exact(KF.out.wf j hlt).1)).mono fun e w' ⟨y,e1,h1,h2,_,h3⟩=>⟨y,e1,h1,h2,h3⟩);have C10:Cy wr q (j*10) x:=(by rw[<-eg];exact((KS _ (UU _ BB)).jF hlt KF.out.data).1);obtain⟨c0,c1,c2,c3,c4,c5,c6,c7,c8,c9⟩:=C10;simp only[Aq.val,AH.val,Aw.val]at c4 c6 c7 c9;have w1:IntKind.i64.wrap ((j:Int)+1)=(j:Int)+1:=(by have:=HLT.out;have:=KF.out.on.2;rw[IntKind.wrap_i64];omega);have n8:No (.cells x 47):=⟨⟩;have XB:=hid (Ag.new wr n8);have V7:=hid (BB.out.alloc BB.out.size n8);clear ex eg xm hlt;go_upto_region 16 with fail
   clear c0 c1 c2 c3 c4 c5 c6 c7 c8 c9 k0 k1 BB;generalize wr.alloc n8=W15 at *;generalize wr.heap.size=XP at *;obtain⟨k0,k1⟩:=(BN _ (UU _ V7)).two;obtain⟨x0,x1,x2,x3,x4,x5,x6,x7,x8,x9⟩:=XB.out.jE;go_wp2_with fail
   refine(YN _ (UU _ V7)).mono ?_;rintro e w16 ⟨y,rfl,sy,yn,hb16⟩;have n5:No (.cells y 47):=⟨⟩;have b16:=Af hb16 ((Below.refl _ w16).alloc nr n5);have V17:=hid (Af V7 b16);have BX17:=hid (XB.out.below b16);have BY17:=hid (Ag.new w16 n5);have YN17:=hid (yn.below ((Below.refl _ w16).alloc nr n5));have Q:=hid (XQ.out y sy);have YS:Hid (y.jA.n<=1048576):=hid (by
    have h:=sy.2.2.2.2.2.2.1.1;rw[h];unfold IB;split
    ·rename_i i hi;have hi':i<lo'.length:=by
      unfold Hn at hi;split at hi
      ·exact(Ay hi).1
      ·cases hi
     have:=(FN.out.o (Aa lo' i) (by rw[Ap hi'];exact List.getElem_mem _)).1.2.2.1.1;exact this
    ·exact Nat.zero_le _)
   clear sy yn hb16 b16 k0 k1 x0 x1 x2 x3 x4 x5 x6 x7 x8 x9 XB V7 YN XQ;go_upto_region 17 with fail
   generalize (Hn (BQ ta ca' oa co' lt' lo') x.id).isSome=b at *;generalize w16.alloc n5=V at *;generalize w16.heap.size=YP at *;have VV:Hid (∀W,Below V V W->Below W11 W11 W):=hid (fun W hW=>Af V17 hW);have BX:Hid (∀W,Below V V W->Ag W XP n8):=hid (fun W hW=>BX17.out.below hW);have BY:Hid (∀W,Below V V W->Ag W YP n5):=hid (fun W hW=>BY17.out.below hW);have XA:Hid (∀W,Below V V W->x.c1.at W/\EJ W x.jA.a x.jA.n x.jA.f):=hid (fun W hW=>XN W (UU W (VV W hW)));have YA:Hid (∀W,Below V V W->y.c1.at W/\EJ W y.jA.a y.jA.n y.jA.f):=hid (fun W hW=>⟨(YN17.out.below hW).1.1,(YN17.out.below hW).2.1.1.2.1⟩);have D0:=hid (Below.refl V V);clear V17 BX17 BY17 YN17 XN;obtain⟨s0,s1,s2,s3,s4,s5,s6,s7,s8,s9⟩:=(BS _ (UU _ (VV _ D0))).jE;by_cases h11:s.kind=11
   ·have k11:(s.kind != 11)=false:=(by rw[h11];rfl);cases b with
    |false=>
     go_wp2_with fail
     go_wp2;go_roundw;case rel=>exact⟨j+1,by have:=HLT.out;omega,by go_num,VV _ D0⟩
     case measure=>have:=HLT.out;simp[intOf];omega
    |true=>
     rcases Q.out.ch rfl with⟨qd,qi⟩|qc
     ·have nd:(!y.data.toList==x.data.toList)=false:=(by rw[qd];simp);have LT:Hid (∀W,Below V V W->Calls prog 22 #[y.jA,x.jA] W fun e w'=>e= .returned (.bool true)/\Below W W w'):=hid (fun W hW=>MY x.jA y.jA W qi (by have:=XS.out;omega) (XA W hW).2 (YA W hW).2);clear qd qi;obtain⟨x0,x1,x2,x3,x4,x5,x6,x7,x8,x9⟩:=(BX _ D0).jE;obtain⟨y0,y1,y2,y3,y4,y5,y6,y7,y8,y9⟩:=(BY _ D0).jE;obtain⟨z0,z1,z2,z3,z4,z5,z6⟩:=(BT _ (VV _ D0)).seven;go_wp2_with fail
      refine(LT _ D0).mono ?_;rintro e w20 ⟨rfl,hb⟩;have E1:=hid (Af D0 hb);clear hb;go_wp2;go_roundw;case rel=>exact⟨j+1,by have:=HLT.out;omega,by go_num,VV _ E1⟩
      case measure=>have:=HLT.out;simp[intOf];omega
     ·have CC:Hid (∀W,Below V V W->Calls prog 19 #[.agg t,.agg #[x.b1,x.c1]] W fun e w'=>e= .returned (.bool true)/\Below W W w'):=hid (fun W hW=>by
       have h:=KU (TA W (VV W hW)) (XA W hW).1 TF XL.out;rw[qc]at h;exact h)
      have LS:Hid (∀W,Below V V W->Calls prog 22 #[y.jA,x.jA] W fun e w'=>∃r:Bool,e= .returned (.bool r)/\Below W W w'):=hid (fun W hW=>MQ x.jA y.jA W (by have:=YS.out;omega) (XA W hW).2 (YA W hW).2);clear qc;obtain⟨x0,x1,x2,x3,x4,x5,x6,x7,x8,x9⟩:=(BX _ D0).jE;obtain⟨y0,y1,y2,y3,y4,y5,y6,y7,y8,y9⟩:=(BY _ D0).jE;obtain⟨z0,z1,z2,z3,z4,z5,z6⟩:=(BT _ (VV _ D0)).seven;cases nd:(!y.data.toList==x.data.toList)with
      |true=>
       go_wp2_with fail
       refine(CC _ D0).mono ?_;rintro e w20 ⟨rfl,hb⟩;have E1:=hid (Af D0 hb);clear hb;go_wp2;go_roundw;case rel=>exact⟨j+1,by have:=HLT.out;omega,by go_num,VV _ E1⟩
       case measure=>have:=HLT.out;simp[intOf];omega
      |false=>
       go_wp2_with fail
       refine(LS _ D0).mono ?_;rintro e w20 ⟨r,rfl,hb⟩;have E1:=hid (Af D0 hb);clear hb;cases r with
       |true=>
        go_wp2;go_roundw;case rel=>exact⟨j+1,by have:=HLT.out;omega,by go_num,VV _ E1⟩
        case measure=>have:=HLT.out;simp[intOf];omega
       |false=>
        clear x0 x1 x2 x3 x4 x5 x6 x7 x8 x9 y0 y1 y2 y3 y4 y5 y6 y7 y8 y9 z0 z1 z2 z3 z4 z5 z6;obtain⟨x0,x1,x2,x3,x4,x5,x6,x7,x8,x9⟩:=(BX _ E1).jE;obtain⟨y0,y1,y2,y3,y4,y5,y6,y7,y8,y9⟩:=(BY _ E1).jE;obtain⟨z0,z1,z2,z3,z4,z5,z6⟩:=(BT _ (VV _ E1)).seven;go_wp2_with fail
        refine(CC _ E1).mono ?_;rintro e w21 ⟨rfl,hb⟩;have E2:=hid (Af E1 hb);clear hb;go_wp2;go_roundw;case rel=>exact⟨j+1,by have:=HLT.out;omega,by go_num,VV _ E2⟩
        case measure=>have:=HLT.out;simp[intOf];omega
   ·have k11:(s.kind != 11)=true:=(by simpa using h11);obtain⟨rfl,q1,q2,q3⟩:=Q.out.keep h11;have n12:Na #[x.b1,x.c1]:=⟨⟩;have LL:Hid (Calls prog 16 #[.agg #[y.b1,y.c1],.agg n12] V fun e w'=>e= .returned (.bool true)/\Below V V w'):=hid (by
     rw[q2];exact Tr x.b1 x.c1 y.c1 V q3 XS.out.1 (XA V D0).1 (YA V D0).1)
    have nu:(y.up != x.up)=false:=(by rw[q1];simp);clear q1 q2 q3;obtain⟨x0,x1,x2,x3,x4,x5,x6,x7,x8,x9⟩:=(BX _ D0).jE;obtain⟨y0,y1,y2,y3,y4,y5,y6,y7,y8,y9⟩:=(BY _ D0).jE;obtain⟨z0,z1,z2,z3,z4,z5,z6⟩:=(BT _ (VV _ D0)).seven;go_wp2_with fail
    refine LL.out.mono ?_;rintro e w18 ⟨rfl,hb⟩;have D2:=hid (Af D0 hb);clear hb;clear x0 x1 x2 x3 x4 x5 x6 x7 x8 x9 y0 y1 y2 y3 y4 y5 y6 y7 y8 y9 z0 z1 z2 z3 z4 z5 z6;rcases Q.out.ch rfl with⟨qd,qi⟩|qc
    ·have nd:(!y.data.toList==x.data.toList)=false:=(by rw[qd];simp);have LT:Hid (∀W,Below V V W->Calls prog 22 #[y.jA,x.jA] W fun e w'=>e= .returned (.bool true)/\Below W W w'):=hid (fun W hW=>MY x.jA y.jA W qi (by have:=XS.out;omega) (XA W hW).2 (YA W hW).2);clear qd qi;obtain⟨x0,x1,x2,x3,x4,x5,x6,x7,x8,x9⟩:=(BX _ D2).jE;obtain⟨y0,y1,y2,y3,y4,y5,y6,y7,y8,y9⟩:=(BY _ D2).jE;obtain⟨z0,z1,z2,z3,z4,z5,z6⟩:=(BT _ (VV _ D2)).seven;go_wp2_with fail
     refine(LT _ D2).mono ?_;rintro e w20 ⟨rfl,hb⟩;have E1:=hid (Af D2 hb);clear hb;go_wp2;go_roundw;case rel=>exact⟨j+1,by have:=HLT.out;omega,by go_num,VV _ E1⟩
     case measure=>have:=HLT.out;simp[intOf];omega
    ·have CC:Hid (∀W,Below V V W->Calls prog 19 #[.agg t,.agg n12] W fun e w'=>e= .returned (.bool true)/\Below W W w'):=hid (fun W hW=>by
      have h:=KU (TA W (VV W hW)) (XA W hW).1 TF XL.out;rw[qc]at h;exact h)
     have LS:Hid (∀W,Below V V W->Calls prog 22 #[y.jA,x.jA] W fun e w'=>∃r:Bool,e= .returned (.bool r)/\Below W W w'):=hid (fun W hW=>MQ x.jA y.jA W (by have:=YS.out;omega) (XA W hW).2 (YA W hW).2);clear qc;obtain⟨x0,x1,x2,x3,x4,x5,x6,x7,x8,x9⟩:=(BX _ D2).jE;obtain⟨y0,y1,y2,y3,y4,y5,y6,y7,y8,y9⟩:=(BY _ D2).jE;obtain⟨z0,z1,z2,z3,z4,z5,z6⟩:=(BT _ (VV _ D2)).seven;cases nd:(!y.data.toList==x.data.toList)with
     |true=>
      go_wp2_with fail
      refine(CC _ D2).mono ?_;rintro e w20 ⟨rfl,hb⟩;have E1:=hid (Af D2 hb);clear hb;go_wp2;go_roundw;case rel=>exact⟨j+1,by have:=HLT.out;omega,by go_num,VV _ E1⟩
      case measure=>have:=HLT.out;simp[intOf];omega
     |false=>
      go_wp2_with fail
      refine(LS _ D2).mono ?_;rintro e w20 ⟨r,rfl,hb⟩;have E1:=hid (Af D2 hb);clear hb;cases r with
      |true=>
       go_wp2;go_roundw;case rel=>exact⟨j+1,by have:=HLT.out;omega,by go_num,VV _ E1⟩
       case measure=>have:=HLT.out;simp[intOf];omega
      |false=>
       clear x0 x1 x2 x3 x4 x5 x6 x7 x8 x9 y0 y1 y2 y3 y4 y5 y6 y7 y8 y9 z0 z1 z2 z3 z4 z5 z6;obtain⟨x0,x1,x2,x3,x4,x5,x6,x7,x8,x9⟩:=(BX _ E1).jE;obtain⟨y0,y1,y2,y3,y4,y5,y6,y7,y8,y9⟩:=(BY _ E1).jE;obtain⟨z0,z1,z2,z3,z4,z5,z6⟩:=(BT _ (VV _ E1)).seven;go_wp2_with fail
       refine(CC _ E1).mono ?_;rintro e w21 ⟨rfl,hb⟩;have E2:=hid (Af E1 hb);clear hb;go_wp2;go_roundw;case rel=>exact⟨j+1,by have:=HLT.out;omega,by go_num,VV _ E2⟩
       case measure=>have:=HLT.out;simp[intOf];omega
  ·obtain rfl:j=lo.length:=by omega
   have i2:¬(lo.length:Int)<(lo.length:Int):=(by omega);go_wp2;go_ret;exact⟨rfl,Af LU (UU _ BB)⟩
open Go.ChangeShapes Go.WideShapes Go.ChangeAt Go.Joins
variable {n:String}{W:World}{g:Nat}{x:List UInt8}{a:Addr}
theorem Tryz.cells9:prog.cellsOf 9=1:=by kernel_rfl
theorem VT:prog.cellsOf 283=1:=by kernel_rfl
theorem Rt: "*" ++ "errors.errorString" = "*errors.errorString" :=by decide
theorem YR(u:TypeId)(h:prog.typeName? 3 u=some "*errors.errorString"):u=264:=
 typeName_ptr_named (nm:= "errors.errorString") (by rw[Rt];kernel_rfl) (by kernel_rfl) (by decide) u (by rw[Rt];exact h)
def bI(W:World)(n:String)(text:List UInt8)(a:Addr):Prop:=W.var? prog n=some #[.iface 264 (.pointer (some a))]/\(∃s:ByteArray,W.cell? a=some (.string s)/\s.data.toList=text)/\∃ca ta,W.heap[a.block]? =some (.cells ca ta (0,0))
theorem KY{text:List UInt8}{r:List (String×DataW Unit)}(h:laidMet prog ((n,.iface "*errors.errorString" (.ptr (.agg [.lit (.string text)])))::r) W)(hg:prog.globalNamed n=some g)(ht:(prog.globals[g]?).map (·.type)=some 62):∃a,bI W n text a:=by
 obtain⟨ps,⟨g0,t0,cs0,f0,p0,q0,hg0,ht0,hv0,hd0,_,e0⟩,_,hrows⟩:=h;obtain rfl:=Option.some.inj (hg.symm.trans hg0);obtain rfl:=Option.some.inj (ht.symm.trans ht0);subst e0;obtain⟨l0⟩:=cs0;have ok0:∀u v,l0=[.iface u v]->Value.okWide prog W .any 0 u v:=fun u v e=>by
  subst e;exact(hrows g 0 (by simp[MemPlace.row])).2 u v (by simpa using World.var?_cell hg0 hv0 0)
 obtain⟨a0,s0,rfl,hc0,hs0,hz0,rfl⟩:=errorString_of_trod underlying62 YR underlying264 underlying283 rfl rfl underlying9 VT Tryz.cells9 hd0 ok0;exact⟨a0,hv0,⟨s0,hc0,hs0⟩,(hrows a0.block a0.off (by simp[MemPlace.row])).1⟩
theorem Gp{m:String}{y:List UInt8}{b:Addr}(h:bI W n x a)(k:bI W m y b)(d:x≠y):a≠b:=fun e=>by
 obtain⟨s,h1,h2⟩:=h.2.1;obtain⟨t,k1,k2⟩:=k.2.1;subst e;rw[h1]at k1;cases k1;exact d (h2.symm.trans k2)
theorem Ul{cs:Array Value}(hg:prog.globalNamed n=some g)(h:W.var? prog n=some cs):g<W.heap.size:=by
 by_cases e:g<W.heap.size
 ·exact e
 ·simp only[World.var?,hg,Option.bind_some]at h;rw[Array.getElem?_eq_none (by omega)]at h;cases h
theorem Dz{W':World}{cs:Array Value}(hg:prog.globalNamed n=some g)(h:W.var? prog n=some cs)(bel:Below W W W'):W'.var? prog n=some cs:=by
 have h0:=Ul hg h;unfold World.var? at h ⊢;simp only[hg,Option.bind_some]at h ⊢;rw[bel.block g h0];exact h
theorem FY(hg:prog.globalNamed n=some g)(h:bI W n x a):W.cell? ⟨g,0,none⟩=some (.iface 264 (.pointer (some a)))/\g<W.heap.size:=⟨by simpa using World.var?_cell hg h.1 0,Ul hg h.1⟩
theorem bF:prog.globalNamed "loop.example/g00272/impl.errWrong" =some 0:=by kernel_rfl
theorem bY:(prog.globals[0]?).map (·.type)=some 62:=by kernel_rfl
theorem bD:prog.globalNamed "loop.example/g00272/impl.errForm" =some 1:=by kernel_rfl
theorem cm:(prog.globals[1]?).map (·.type)=some 62:=by kernel_rfl
theorem bJ:prog.globalNamed "loop.example/g00272/impl.errThread" =some 2:=by kernel_rfl
theorem bX:(prog.globals[2]?).map (·.type)=some 62:=by kernel_rfl
theorem bK:prog.globalNamed "loop.example/g00272/impl.errMade" =some 4:=by kernel_rfl
theorem cr:(prog.globals[4]?).map (·.type)=some 62:=by kernel_rfl
theorem bM:prog.globalNamed "loop.example/g00272/impl.errOwns" =some 5:=by kernel_rfl
theorem bW:(prog.globals[5]?).map (·.type)=some 62:=by kernel_rfl
theorem bE:prog.globalNamed "loop.example/g00272/impl.errKind" =some 6:=by kernel_rfl
theorem cd:(prog.globals[6]?).map (·.type)=some 62:=by kernel_rfl
theorem bG:prog.globalNamed "loop.example/g00272/impl.errRoot" =some 7:=by kernel_rfl
theorem bV:(prog.globals[7]?).map (·.type)=some 62:=by kernel_rfl
theorem bz:prog.globalNamed "loop.example/g00272/impl.errChange" =some 8:=by kernel_rfl
theorem bZ:(prog.globals[8]?).map (·.type)=some 62:=by kernel_rfl
theorem bw:prog.globalNamed "loop.example/g00272/impl.errFlow" =some 9:=by kernel_rfl
theorem ct:(prog.globals[9]?).map (·.type)=some 62:=by kernel_rfl
theorem Zc:prog.globalNamed "loop.example/g00272/impl.errOwn" =some 10:=by kernel_rfl
theorem aT:(prog.globals[10]?).map (·.type)=some 62:=by kernel_rfl
theorem YD:prog.globalNamed "loop.example/g00272/impl.errSee" =some 11:=by kernel_rfl
theorem aS:(prog.globals[11]?).map (·.type)=some 62:=by kernel_rfl
theorem YV:prog.globalNamed "loop.example/g00272/impl.errItems" =some 12:=by kernel_rfl
theorem aW:(prog.globals[12]?).map (·.type)=some 62:=by kernel_rfl
theorem Yr:prog.globalNamed "loop.example/g00272/impl.errNone" =some 13:=by kernel_rfl
theorem bh:(prog.globals[13]?).map (·.type)=some 62:=by kernel_rfl
def MO:List (String×DataW Unit):=[("math/bits.deBruijn32tab",Rows.laid_math_bits_deBruijn32tab),("math/bits.deBruijn64tab",Rows.laid_math_bits_deBruijn64tab),("internal/strconv.uint64pow10",Lib.tabData .u64 Lib.pow10Tab),("loop.example/g00272/impl.errWrong",Rows.laid_loop_example_g00272_impl_errWrong),("loop.example/g00272/impl.errForm",Rows.laid_loop_example_g00272_impl_errForm),("loop.example/g00272/impl.errThread",Rows.laid_loop_example_g00272_impl_errThread),("loop.example/g00272/impl.errKind",Rows.laid_loop_example_g00272_impl_errKind),("loop.example/g00272/impl.errRoot",Rows.laid_loop_example_g00272_impl_errRoot),("loop.example/g00272/impl.errSee",Rows.laid_loop_example_g00272_impl_errSee),("loop.example/g00272/impl.errChange",Rows.laid_loop_example_g00272_impl_errChange),("loop.example/g00272/impl.errFlow",Rows.laid_loop_example_g00272_impl_errFlow),("loop.example/g00272/impl.errOwn",Rows.laid_loop_example_g00272_impl_errOwn),("loop.example/g00272/impl.errMade",Rows.laid_loop_example_g00272_impl_errMade),("loop.example/g00272/impl.errOwns",Rows.laid_loop_example_g00272_impl_errOwns),("loop.example/g00272/impl.errItems",Rows.laid_loop_example_g00272_impl_errItems),("loop.example/g00272/impl.errNone",Rows.laid_loop_example_g00272_impl_errNone)]
theorem Tryz.g14:prog.globalNamed "internal/strconv.uint64pow10" =some 14:=by kernel_rfl
theorem Tryz.g14t:(prog.globals[14]?).map (·.type)=some 257:=by kernel_rfl
theorem Tryz.cells257:prog.cellsOf 257=20:=by kernel_rfl
theorem Tryz.et:prog.globalNamed "errors.errorType" =some 3:=by kernel_rfl
theorem Tryz.rt:(prog.cutTypes.find? (·.1== "internal/reflectlite.rtype")).map (·.2)=some 154:=by kernel_rfl
theorem Tryz.oneRow:((List.range 295).filter fun t=>prog.rowNamed t [101,114,114,111,114])=[62]:=by kernel_rfl
theorem Tryz.tsize:prog.types.size=295:=by kernel_rfl
theorem Tryz.hand:typeHandle prog 62= .pointer (some ⟨18,62,none⟩):=by kernel_rfl
theorem Vh(h:handlesMet prog [("errors.errorType",Rows.laid_errors_errorType)] W):W.var? prog "errors.errorType" =some #[.iface 154 (.agg #[.pointer (some ⟨18,62,none⟩)])]:=by
 obtain⟨name,u,ty,e1,e2,e3,e4,e5⟩:=h _ (List.mem_singleton.2 rfl);have en:name=[101,114,114,111,114]:=(Option.some.inj e1).symm;subst en;obtain rfl:=Option.some.inj (Tryz.rt.symm.trans e2);have hm:ty∈(List.range 295).filter fun t=>prog.rowNamed t [101,114,114,111,114]:=List.mem_filter.2 ⟨List.mem_range.2 (by rw[<-Tryz.tsize];exact e3),e4⟩;rw[Tryz.oneRow]at hm;obtain rfl:=List.mem_singleton.1 hm;rw[Tryz.hand]at e5;exact e5
theorem bT(h:laidMet prog MO W):17<W.heap.size:=by
 obtain⟨ps,⟨g0,t0,cs0,f0,p0,q0,hg0,ht0,hv0,_⟩,_⟩:=h.tail;have e:g0=17:=Option.some.inj (hg0.symm.trans (show prog.globalNamed "math/bits.deBruijn64tab" =some 17 by kernel_rfl));rw[<-e];exact Ul hg0 hv0
def Es(a0 a1 a2 a4 a5 a6 a7 a8 a9 a10 a11 a12 a13:Addr):Nat->Addr
 |0=>a0
 |1=>a1
 |2=>a2
 |4=>a4
 |5=>a5
 |6=>a6
 |7=>a7
 |8=>a8
 |9=>a9
 |10=>a10
 |11=>a11
 |12=>a12
 |13=>a13
 |_=>a0
theorem Wy(hk:laidMet prog MO W/\handlesMet prog [("errors.errorType",Rows.laid_errors_errorType)] W):∃E:Nat->Addr,VO W E/\W.var? prog "loop.example/g00272/impl.errWrong" =some #[.iface 264 (.pointer (some (E 0)))]/\W.var? prog "loop.example/g00272/impl.errForm" =some #[.iface 264 (.pointer (some (E 1)))]/\W.var? prog "loop.example/g00272/impl.errThread" =some #[.iface 264 (.pointer (some (E 2)))]/\W.var? prog "loop.example/g00272/impl.errMade" =some #[.iface 264 (.pointer (some (E 4)))]/\W.var? prog "loop.example/g00272/impl.errOwns" =some #[.iface 264 (.pointer (some (E 5)))]/\W.var? prog "loop.example/g00272/impl.errKind" =some #[.iface 264 (.pointer (some (E 6)))]/\W.var? prog "loop.example/g00272/impl.errChange" =some #[.iface 264 (.pointer (some (E 8)))]/\W.var? prog "loop.example/g00272/impl.errFlow" =some #[.iface 264 (.pointer (some (E 9)))]/\W.var? prog "loop.example/g00272/impl.errOwn" =some #[.iface 264 (.pointer (some (E 10)))]/\W.var? prog "loop.example/g00272/impl.errRoot" =some #[.iface 264 (.pointer (some (E 7)))]/\W.var? prog "loop.example/g00272/impl.errSee" =some #[.iface 264 (.pointer (some (E 11)))]/\W.var? prog "loop.example/g00272/impl.errItems" =some #[.iface 264 (.pointer (some (E 12)))]/\W.var? prog "loop.example/g00272/impl.errNone" =some #[.iface 264 (.pointer (some (E 13)))]:=by
 obtain⟨h,k⟩:=hk;have hh:=Vh k;have LT:=bT h;have hT:QU W:=Lib.tabIs_of_head Tryz.g14 Tryz.g14t underlying257 underlying180 (by kernel_rfl) Tryz.cells257 h.tail.tail;have t:=h.tail.tail.tail;obtain⟨a0,s0⟩:=KY t bF bY;replace t:=t.tail;obtain⟨a1,s1⟩:=KY t bD cm;replace t:=t.tail;obtain⟨a2,s2⟩:=KY t bJ bX;replace t:=t.tail;obtain⟨a6,s6⟩:=KY t bE cd;replace t:=t.tail;obtain⟨a7,s7⟩:=KY t bG bV;replace t:=t.tail;obtain⟨a11,s11⟩:=KY t YD aS;replace t:=t.tail;obtain⟨a8,s8⟩:=KY t bz bZ;replace t:=t.tail;obtain⟨a9,s9⟩:=KY t bw ct;replace t:=t.tail;obtain⟨a10,s10⟩:=KY t Zc aT;replace t:=t.tail;obtain⟨a4,s4⟩:=KY t bK cr;replace t:=t.tail;obtain⟨a5,s5⟩:=KY t bM bW;replace t:=t.tail;obtain⟨a12,s12⟩:=KY t YV aW;replace t:=t.tail;obtain⟨a13,s13⟩:=KY t Yr bh;clear t h k;refine⟨Es a0 a1 a2 a4 a5 a6 a7 a8 a9 a10 a11 a12 a13,⟨fun i h1 h2=>?_,⟨fun i h1 h2 h3=>?_,fun i h1 h2=>?_,by simpa using World.var?_cell Tryz.et hh 0,LT⟩,hT⟩,s0.1,s1.1,s2.1,s4.1,s5.1,s6.1,s8.1,s9.1,s10.1,s7.1,s11.1,s12.1,s13.1⟩
 ·match i,h1,h2 with
  |0,_,_=>exact FY bF s0
  |1,_,_=>exact FY bD s1
  |2,_,_=>exact FY bJ s2
  |3,_,h=>exact absurd rfl h
  |4,_,_=>exact FY bK s4
  |5,_,_=>exact FY bM s5
  |6,_,_=>exact FY bE s6
  |7,_,_=>exact FY bG s7
  |8,_,_=>exact FY bz s8
  |9,_,_=>exact FY bw s9
  |10,_,_=>exact FY Zc s10
  |11,_,_=>exact FY YD s11
  |12,_,_=>exact FY YV s12
  |13,_,_=>exact FY Yr s13
  |i+14,h,_=>exact absurd h (by omega)
 ·match i,h1,h2,h3 with
  |0,_,_,h=>exact absurd rfl h
  |1,_,_,_=>exact Gp s1 s0 (by decide)
  |2,_,_,_=>exact Gp s2 s0 (by decide)
  |3,_,h,_=>exact absurd rfl h
  |4,_,_,_=>exact Gp s4 s0 (by decide)
  |5,_,_,_=>exact Gp s5 s0 (by decide)
  |6,_,_,_=>exact Gp s6 s0 (by decide)
  |7,_,_,_=>exact Gp s7 s0 (by decide)
  |8,_,_,_=>exact Gp s8 s0 (by decide)
  |9,_,_,_=>exact Gp s9 s0 (by decide)
  |10,_,_,_=>exact Gp s10 s0 (by decide)
  |11,_,_,_=>exact Gp s11 s0 (by decide)
  |12,_,_,_=>exact Gp s12 s0 (by decide)
  |13,_,_,_=>exact Gp s13 s0 (by decide)
  |i+14,h,_,_=>exact absurd h (by omega)
 ·match i,h1,h2 with
  |0,_,_=>exact s0.2.2
  |1,_,_=>exact s1.2.2
  |2,_,_=>exact s2.2.2
  |3,_,h=>exact absurd rfl h
  |4,_,_=>exact s4.2.2
  |5,_,_=>exact s5.2.2
  |6,_,_=>exact s6.2.2
  |7,_,_=>exact s7.2.2
  |8,_,_=>exact s8.2.2
  |9,_,_=>exact s9.2.2
  |10,_,_=>exact s10.2.2
  |11,_,_=>exact s11.2.2
  |12,_,_=>exact s12.2.2
  |13,_,_=>exact s13.2.2
  |i+14,h,_=>exact absurd h (by omega)
theorem Tryz.ownKnob:Go.ownKnob prog.godebug=none:=by kernel_rfl
theorem Tryz.laidOut:laidOutB prog=true:=by kernel_rfl
theorem Yl{w:World}{b o:Nat}{v:Value}(h:w.cell? ⟨b,o,none⟩=some v):b<w.heap.size:=by
 apply Nat.lt_of_not_le;intro hle;have:w.heap[b]? =none:=Array.getElem?_eq_none hle;simp[World.cell?,this]at h
theorem Tryz.cells5:prog.cellsOf 5=1:=by kernel_rfl
theorem Qc{H:Type}{enc:TypeId×Value->H}{W:World}{base:Nat}{v1:Value}{d1:DataW H}{p1:List MemPlace}(hval:Value.okWide prog W .any base 22 v1)(h1:DataW.Trod enc prog W 0 (fun _=>true) true 22 v1 d1 p1):
 ∃a n cap,v1= .slice a n cap/\BytesAt W a n:=by
 obtain⟨a1,len,cap,rfl⟩:=okWide_slice underlying22 hval;obtain⟨fuel,hf⟩:=h1;rcases open_ints underlying22 underlying5 Tryz.cells5 hf with⟨hcs,hx⟩|⟨a,len',cap',zs,hcs,_,hl,hm,hz,hx,hcell,hwz⟩
 ·simp[Value.cells]at hcs;obtain⟨rfl,rfl,rfl⟩:=hcs;exact⟨none,0,0,rfl,fun h=>by omega⟩
 ·simp[Value.cells]at hcs;obtain⟨rfl,rfl,rfl⟩:=hcs;simp only[if_true]at hz;obtain⟨ab,ao,spot⟩:=a;refine⟨_,_,_,rfl,fun h0=>?_⟩;have hspot:spot=none:=by simpa[Addr.add]using World.cell?_spot (hcell 0 (by omega))
  subst hspot;have h00:=hcell 0 (by omega);rw[Addr.add_lit]at h00;refine⟨ab,ao,rfl,Yl h00,fun i hi=>?_⟩;have hi':=hcell i (by omega);rw[Addr.add_lit]at hi';have hb:=range_u8 hwz i;rw[List.getD_eq_getElem?_getD]at hi';exact⟨_,hi',hb.1,by omega⟩
end Go.Proofs.YtbdagpckhfcneaaGreatDoor
