import Derived.Shelf.SlSortCmp.WholeK
import Derived.Ground.SlsfProg
import Derived.Test.YtefoofaocbjdoaaGreatDoorZ32s
set_option maxRecDepth 100000
set_option maxHeartbeats 16000000
namespace Go.Proofs.YtefoofaocbjdoaaGreatDoor
open Go Go.RowKit Go.Deep Go.Maps Go.BigFrame Go.Shelf Go.Proofs.Tryz
def MD(X:Ae)(s:Al)(lo:List Ab)(c:Int):Prop:=(c=4/\Gc X s lo=false)∨(c=5/\Gc X s lo=true/\X.made=30)∨(c=0/\Gc X s lo=true/\X.made≠30)
theorem Lq{X:Ae}{s:Al}{lo:List Ab}(h:Gc X s lo=false):MD X s lo 4:= .inl ⟨rfl,h⟩
theorem Fv{X:Ae}{s:Al}{lo:List Ab}{u:Nat}(h:Hf lo s.id=some u):Gc X s lo=(decide ((Aa lo u).kind=3)&&Ap X (Aa lo u).b1 (Aa lo u).c1&&Ek X.b1 X.c1 X.own s.b1 s.c1&&Ek s.b1 s.c1 X.own X.b2 X.c2&&(!decide (0<s.cat)||hasB X.own.n X.own.h s.cat)):=by
 unfold Gc;rw[h]
theorem Jt(w:World)(A B:Obj):Ah ((w.alloc A).alloc B).drew w A/\Ah ((w.alloc A).alloc B).drew (w.heap.size+1) B/\Below w w ((w.alloc A).alloc B).drew:=
 ⟨(Ah.new w A).alloc B,by have h:=Ah.new (w.alloc A) B;rw[show(w.alloc A).heap.size=w.heap.size+1 from by simp]at h;exact h,((Be w _).alloc (by simp) _).drew⟩
section
variable {E:Nat->Addr}{w:World}{B P:Nat}{s:Al}{g ca q co:Nat}{lt:List Ae}{lo:List Ab}{t c C:Nat}{nb:Nat->Nat}{kv:Nat->Value}{K:Nat->List Int}{X:Ae}
theorem Sy(v:Env E w B P s g ca q co lt lo t c C nb kv K X)(hcat:0<=s.cat):
 Calls prog 108 #[.pointer P] w fun e w'=>∃r,e= .returned r/\Below w w w'/\∃c',Told w' B E r c'/\MD X s lo c':=by
 have VV:=hid v;have CW:=(v.h.st.jJ v.ht).1;have gl:=(v.h.st.jJ v.ht).2;rw[<-v.hX]at CW;obtain⟨⟨s0,s1,s2,s3,s4,s5,s6,s7,s8,s9⟩,_,_,c12,_⟩:=Ah.jZ (show Ah w.drew P _ from v.h.wk);have pl:P<w.heap.size:=v.h.wk.lt;have q0:w.drew.cell? ⟨g,t*7,none⟩=some (.int .i64 X.id):=CW.c0;have q1:w.drew.cell? ⟨g,t*7+1,none⟩=some (.int .i64 X.b1):=CW.c1;have q2:w.drew.cell? ⟨g,t*7+2,none⟩=some (.slice X.c1.a X.c1.n X.c1.k):=CW.c2;have q3:w.drew.cell? ⟨g,t*7+3,none⟩=some (.int .i64 X.b2):=CW.c3;have q4:w.drew.cell? ⟨g,t*7+4,none⟩=some (.slice X.c2.a X.c2.n X.c2.k):=CW.c4;have q5:w.drew.cell? ⟨g,t*7+5,none⟩=some (.slice X.own.a X.own.n X.own.k):=CW.c5;have q6:w.drew.cell? ⟨g,t*7+6,none⟩=some (.int .i64 X.made):=CW.c6;obtain⟨⟨k0,k1,k2,k3,k4,k5,k6,k7,k8,k9⟩,_,_,v12,_⟩:=v.h.wk.jZ;have p0:w.cell? ⟨g,t*7,none⟩=some (.int .i64 X.id):=CW.c0;have p1:w.cell? ⟨g,t*7+1,none⟩=some (.int .i64 X.b1):=CW.c1;have p2:w.cell? ⟨g,t*7+2,none⟩=some (.slice X.c1.a X.c1.n X.c1.k):=CW.c2;have p3:w.cell? ⟨g,t*7+3,none⟩=some (.int .i64 X.b2):=CW.c3;have p4:w.cell? ⟨g,t*7+4,none⟩=some (.slice X.c2.a X.c2.n X.c2.k):=CW.c4;have p5:w.cell? ⟨g,t*7+5,none⟩=some (.slice X.own.a X.own.n X.own.k):=CW.c5;have p6:w.cell? ⟨g,t*7+6,none⟩=some (.int .i64 X.made):=CW.c6;have n1:¬P=w.heap.size:=by omega
 have n2:¬P=w.heap.size+1:=by omega
 have n3:¬g=w.heap.size:=by omega
 have n4:¬g=w.heap.size+1:=by omega
 have HC:=hid hcat;clear v CW hcat;go_enter func108,ntmps108
 go_upto_region 1 with fail
 go_cut[3,4] from 5 (fun a b w1=>∃p r,a= .pointer (some ⟨p,0,none⟩)/\b= .pointer (some ⟨r,0,none⟩)/\Ah w1 p (.cells s 32)/\Ah w1 r (.cells X 57)/\Below w w w1)
 case first=>
  go_region_law fail
  all_goals(
   go_wp2_with fail
   go_meet;case rel=>first|exact⟨_,_,rfl,rfl,(Jt w _ _).1,(Jt w _ _).2.1,(Jt w _ _).2.2⟩|exact⟨_,_,rfl,rfl,(Jt w _ _).2.1,(Jt w _ _).1,(Jt w _ _).2.2⟩)
 case rest=>
  obtain⟨p,r,rfl,rfl,AP,AR,hb⟩:=hcut;generalize wc=w1 at *;have A1:=hid hb;have SP:=hid AP;have TR:=hid AR;clear hb AP AR s0 s1 s2 s3 s4 s5 s6 s7 s8 s9 c12 q0 q1 q2 q3 q4 q5 q6 k0 k1 k2 k3 k4 k5 k6 k7 k8 k9 v12 p0 p1 p2 p3 p4 p5 p6 n1 n2 n3 n4 pl gl;have V1:=VV.out.below A1.out;have THH:=hid (IZ w1 B P s g ca q co lt lo t c C lo.length _ nb kv K V1.h V1.n nr (Cm V1.ok) s.id (cM (GP V1.so)));clear V1;obtain⟨x0,x1,x2,x3,x4,x5,x6,x7,x8,x9⟩:=SP.out.jE;go_wp2_with fail
  refine THH.out.mono ?_;rintro e w2 ⟨hr,b2⟩;have B2:=hid b2;have A2:=hid (Af A1 b2);clear THH b2 x0 x1 x2 x3 x4 x5 x6 x7 x8 x9;rcases hr with⟨hf,rfl⟩|⟨u,hf,rfl⟩
  ·have MP:Hid (MD X s lo 4):=hid (Lq (by unfold Gc;rw[show Hf lo s.id=none from hf]));clear hf;have a0:=Zl 172 w2;have A3:=hid (Af A2 (Be w2 (.cells #[.pointer none] 181)));have e9:=((VV.out.below A3).e 6 (by omega) (by omega)).1;have sz:=(VV.out.below A3).hB;go_wp2_with fail
   refine(Bq 257 (.pointer (some (E 6))) _).mono ?_;rintro e w9 ⟨rfl,rfl⟩;go_wp2;go_ret;have b3:=Af A3 (Be _ (.cells #[.int .i64 4,.iface 257 (.pointer (some (E 6)))] 54));exact⟨_,rfl,b3,4,Cn _ E sz 4 (by decide) 6 (by decide) (by decide) (by decide) (by first|rfl|simp),MP⟩
  ·obtain⟨ul,_⟩:=AE hf;have HF:Hid (Hf lo s.id=some u):=hid hf;clear hf;by_cases h3:(Aa lo u).kind=3;rotate_left
   ·have MP:Hid (MD X s lo 4):=hid (Lq (by rw[Fv HF.out];simp[h3]));have hT:Et (Aa lo u).kind≠181:=by
     unfold Et;split
     ·decide
     ·split
      ·decide
      ·first|decide|(rw[if_neg h3];decide)
    generalize Et (Aa lo u).kind=T at hT ⊢;have a0:=X4 172 T (.agg #[.pointer (some ⟨q,u*10,none⟩)]) w2 hT;have A3:=hid (Af A2 (Be w2 (.cells #[.pointer none] 181)));clear hT h3;have e9:=((VV.out.below A3).e 6 (by omega) (by omega)).1;have sz:=(VV.out.below A3).hB;go_wp2_with fail
    refine(Bq 257 (.pointer (some (E 6))) _).mono ?_;rintro e w9 ⟨rfl,rfl⟩;go_wp2;go_ret;have b3:=Af A3 (Be _ (.cells #[.int .i64 4,.iface 257 (.pointer (some (E 6)))] 54));exact⟨_,rfl,b3,4,Cn _ E sz 4 (by decide) 6 (by decide) (by decide) (by decide) (by first|rfl|simp),MP⟩
   have ty:Et (Aa lo u).kind=181:=(by rw[h3];rfl);rw[ty];have H3:=hid h3;clear ty h3;have n7:Na #[.pointer (some ⟨q,u*10,none⟩)]:=⟨⟩;have a0:=Vv 172 (.agg n7) w2;have n5:Nw (w2.alloc (.cells n7 181)):=⟨⟩;have b3:Below w2 w2 n5:=Be w2 _;have A3:=hid (Af A2 b3);have d0:(n5:World).cell? ⟨w2,0,none⟩=some (.pointer (some ⟨q,u*10,none⟩)):=(by go_simp);have B3:=hid (Af B2 b3);clear b3;have n6:Na X:=⟨⟩;have BS:Hid (∀W,Below (n5:World).heap.size n5 W->Ah W p (.cells s 32)/\Ah W r (.cells n6 57)):=hid (fun W hW=>⟨SP.out.below (Af B3 hW),TR.out.below (Af B3 hW)⟩);have BY:Hid (∀W,Below (n5:World).heap.size n5 W->Ah W r (.cells n6 57)/\W.cell? ⟨w2,0,none⟩=some (.pointer (some ⟨q,u*10,none⟩))):=hid (fun W hW=>⟨(BS W hW).2,(hW.cell (p:=⟨w2,0,none⟩) (by simp)).trans d0⟩);go_upto_region 5 with fail
   clear a0 d0;have EL:Hid (∀args w,(callFunc 134 args).run prog w= .ok (.enter 134 args) w):=hid (enters_of func134 (by kernel_rfl) rfl);have EC:Hid (∀args w,(callFunc 114 args).run prog w= .ok (.enter 114 args) w):=hid (enters_of func114 (by kernel_rfl) rfl);have D0:=hid (Below.refl (n5:World).heap.size n5).drew;have PL:Hid (Calls prog 134 #[.agg n7] (n5:World).drew fun e w'=>∃v,e= .returned v/\(v= .agg #[.int .i64 (Aa lo u).b1,.slice (Aa lo u).c1.a (Aa lo u).c1.n (Aa lo u).c1.k]/\Below (n5:World).drew.heap.size (n5:World).drew w')):=hid (by
    have V:=VV.out.below (Af A3 D0);obtain⟨CO,ql⟩:=V.h.st.jF ul (Cm V.ok);rw[<-AM ul]at CO;exact(Lp q (u*10) (Aa lo u).b1 (Aa lo u).c1 _ ql CO.c3 CO.c4).mono fun _ _ h=>⟨_,h.1,rfl,h.2⟩)
   refine Am 7 (fun W=>Below (n5:World).heap.size n5 W) (by kernel_rfl) ?_;refine tr 0 31 (.agg n6) D0 ?_ (hy:=fun W h=>by obtain⟨y0,y1,y2,y3,y4,y5,y6⟩:=(BY W h).1.seven;go_simp);refine tr 1 32 (.pointer (w2)) D0 ?_;refine tr 2 33 (.agg n7) D0 ?_ (hy:=fun W h=>by have y:=(BY W h).2;go_simp);refine Ac (i:=3) (by kernel_rfl) rfl ?_;intro K hK;refine Ao (by rfl) 134 _ _ (by rfl) EL _ (by rfl) (some 34) (by rfl) _ PL ?_;rintro v w3 ⟨rfl,b3⟩;have V2:=hid (Af D0 b3);refine hK _ _ (fun _=>V2) ?_;clear hK K b3;simp only[ap,List.set];have PS:=hid (Eg (VV.out.changes u ul _ (Af A3 V2)));refine Ac (i:=4) (by kernel_rfl) rfl ?_;intro K hK;refine AJ (by rfl) 114 _ _ _ (by rfl) EC _ _ (by rfl) (by rfl) (some 35) (by rfl) _ PS ?_;rintro v w4 ⟨rfl,b4⟩;have V3:=hid (Af V2 b4);refine hK _ _ (fun _=>V3) ?_;clear hK K b4 PS;simp only[ap,List.set];refine tr 5 36 (.bool (!Ap X (Aa lo u).b1 (Aa lo u).c1)) V3 ?_;refine tr 6 30 (.bool (!Ap X (Aa lo u).b1 (Aa lo u).c1)) V3 ?_;refine Ai (by kernel_rfl) ?_ _;have A4:=hid (Af A3 V3);cases hc:Ap X (Aa lo u).b1 (Aa lo u).c1 with
   |false=>
    have MP:Hid (MD X s lo 4):=hid (Lq (by rw[Fv HF.out,hc];simp));clear hc;have e9:=((VV.out.below A4).e 8 (by omega) (by omega)).1;have sz:=(VV.out.below A4).hB;go_wp2_with fail
    refine(Bq 257 (.pointer (some (E 8))) _).mono ?_;rintro e w9 ⟨rfl,rfl⟩;go_wp2;go_ret;have b3:=Af A4 (Be _ (.cells #[.int .i64 4,.iface 257 (.pointer (some (E 8)))] 54));exact⟨_,rfl,b3,4,Cn _ E sz 4 (by decide) 8 (by decide) (by decide) (by decide) (by first|rfl|simp),MP⟩
   |true=>
    have HCh:=hid hc;clear hc;obtain⟨x0,x1,x2,x3,x4,x5,x6,x7,x8,x9⟩:=(BS _ V3).1.jE;obtain⟨y0,y1,y2,y3,y4,y5,y6⟩:=(BS _ V3).2.seven;have V4:=VV.out.below A4.out;have sa:=V4.hs _ (Below.refl _ _);have sf:=GP V4.so;have F1:=hid (Ko (V4.xat).1 (V4.xat).2.2 sa.1 V4.thr.l1 V4.thr.own sf.l1);clear V4 sa;go_wp2_with fail
    refine F1.out.mono ?_;rintro e w5 ⟨rfl,b5⟩;have A5:=hid (Af A4 b5);have V5:=hid (Af V3 b5);clear b5 F1 x0 x1 x2 x3 x4 x5 x6 x7 x8 x9 y0 y1 y2 y3 y4 y5 y6;cases h1:Ek X.b1 X.c1 X.own s.b1 s.c1 with
    |false=>
     have MP:Hid (MD X s lo 4):=hid (Lq (by rw[Fv HF.out,h1];simp));clear h1;have e9:=((VV.out.below A5).e 9 (by omega) (by omega)).1;have sz:=(VV.out.below A5).hB;go_wp2_with fail
     refine(Bq 257 (.pointer (some (E 9))) _).mono ?_;rintro e w9 ⟨rfl,rfl⟩;go_wp2;go_ret;have b3:=Af A5 (Be _ (.cells #[.int .i64 4,.iface 257 (.pointer (some (E 9)))] 54));exact⟨_,rfl,b3,4,Cn _ E sz 4 (by decide) 9 (by decide) (by decide) (by decide) (by first|rfl|simp),MP⟩
    |true=>
     have HF1:=hid h1;clear h1;obtain⟨x0,x1,x2,x3,x4,x5,x6,x7,x8,x9⟩:=(BS _ V5).1.jE;obtain⟨y0,y1,y2,y3,y4,y5,y6⟩:=(BS _ V5).2.seven;have V4:=VV.out.below A5.out;have sa:=V4.hs _ (Below.refl _ _);have F1:=hid (Ko sa.1 (V4.xat).2.2 (V4.xat).2.1 sf.l1 V4.thr.own V4.thr.l2);clear V4 sa;go_wp2_with fail
     refine F1.out.mono ?_;rintro e w6 ⟨rfl,b6⟩;have A6:=hid (Af A5 b6);have V6:=hid (Af V5 b6);clear b6 F1 x0 x1 x2 x3 x4 x5 x6 x7 x8 x9 y0 y1 y2 y3 y4 y5 y6;cases h2:Ek s.b1 s.c1 X.own X.b2 X.c2 with
     |false=>
      have MP:Hid (MD X s lo 4):=hid (Lq (by rw[Fv HF.out,h2];simp));clear h2;have e9:=((VV.out.below A6).e 9 (by omega) (by omega)).1;have sz:=(VV.out.below A6).hB;go_wp2_with fail
      refine(Bq 257 (.pointer (some (E 9))) _).mono ?_;rintro e w9 ⟨rfl,rfl⟩;go_wp2;go_ret;have b3:=Af A6 (Be _ (.cells #[.int .i64 4,.iface 257 (.pointer (some (E 9)))] 54));exact⟨_,rfl,b3,4,Cn _ E sz 4 (by decide) 9 (by decide) (by decide) (by decide) (by first|rfl|simp),MP⟩
     |true=>
      have HF2:=hid h2;clear h2;obtain⟨x0,x1,x2,x3,x4,x5,x6,x7,x8,x9⟩:=(BS _ V6).1.jE;obtain⟨y0,y1,y2,y3,y4,y5,y6⟩:=(BS _ V6).2.seven;by_cases hz:s.cat=0
      ·have z1:(s.cat != 0)=false:=(by simp[hz]);have MB:Hid (Gc X s lo=true):=hid (by rw[Fv HF.out,H3.out,HCh.out,HF1.out,HF2.out,hz];simp);by_cases hm:X.made=30
       ·rw[hm]at y6;have MP:Hid (MD X s lo 5):=hid (.inr (.inl ⟨rfl,MB,hm⟩));clear hm;have e9:=((VV.out.below A6).e 4 (by omega) (by omega)).1;have sz:=(VV.out.below A6).hB;go_wp2_with fail
        refine(CR 5 257 (.pointer (some (E 4))) _).mono ?_;rintro e w9 ⟨rfl,rfl⟩;go_wp2;go_ret;have b3:=Af A6 (Be _ (.cells #[.int .i64 5,.iface 257 (.pointer (some (E 4)))] 54));exact⟨_,rfl,b3,5,Cn _ E sz 5 (by decide) 4 (by decide) (by decide) (by decide) (by first|rfl|simp),MP⟩
       ·have m1:(X.made==30)=false:=(by simp[hm]);have MP:Hid (MD X s lo 0):=hid (.inr (.inr ⟨rfl,MB,hm⟩));go_wp2;go_ret;exact⟨_,rfl,A6,0,.inl ⟨rfl,rfl⟩,MP⟩
      ·have z1:(s.cat != 0)=true:=(by simp[hz]);have z2:(s.cat==0)=false:=(by simp[hz]);have zp:0<s.cat:=(by have:=HC.out;omega);have ZP:=hid zp;have V4:=VV.out.below A6.out;have CT:=hid (Iz X.own.a X.own.n X.own.k X.own.h s.cat w6 V4.xat.2.2.1 V4.xat.2.2.2);clear V4 zp;go_wp2_with fail
       refine CT.out.mono ?_;rintro e w7 ⟨rfl,rfl⟩;clear CT;cases h5:hasB X.own.n X.own.h s.cat with
       |false=>
        have MP:Hid (MD X s lo 4):=hid (Lq (by rw[Fv HF.out,h5];simp[ZP.out]));clear h5 x0 x1 x2 x3 x4 x5 x6 x7 x8 x9 y0 y1 y2 y3 y4 y5 y6;have e9:=((VV.out.below A6).e 10 (by omega) (by omega)).1;have sz:=(VV.out.below A6).hB;go_wp2_with fail
        refine(Bq 257 (.pointer (some (E 10))) _).mono ?_;rintro e w9 ⟨rfl,rfl⟩;go_wp2;go_ret;have b3:=Af A6 (Be _ (.cells #[.int .i64 4,.iface 257 (.pointer (some (E 10)))] 54));exact⟨_,rfl,b3,4,Cn _ E sz 4 (by decide) 10 (by decide) (by decide) (by decide) (by first|rfl|simp),MP⟩
       |true=>
        have MB:Hid (Gc X s lo=true):=hid (by rw[Fv HF.out,H3.out,HCh.out,HF1.out,HF2.out,h5];simp);clear h5;by_cases hm:X.made=30
        ·rw[hm]at y6;have MP:Hid (MD X s lo 5):=hid (.inr (.inl ⟨rfl,MB,hm⟩));clear hm;have e9:=((VV.out.below A6).e 4 (by omega) (by omega)).1;have sz:=(VV.out.below A6).hB;go_wp2_with fail
         refine(CR 5 257 (.pointer (some (E 4))) _).mono ?_;rintro e w9 ⟨rfl,rfl⟩;go_wp2;go_ret;have b3:=Af A6 (Be _ (.cells #[.int .i64 5,.iface 257 (.pointer (some (E 4)))] 54));exact⟨_,rfl,b3,5,Cn _ E sz 5 (by decide) 4 (by decide) (by decide) (by decide) (by first|rfl|simp),MP⟩
        ·have m1:(X.made==30)=false:=(by simp[hm]);have MP:Hid (MD X s lo 0):=hid (.inr (.inr ⟨rfl,MB,hm⟩));go_wp2;go_ret;exact⟨_,rfl,A6,0,.inl ⟨rfl,rfl⟩,MP⟩
end
theorem By.subO{w w':World}{B q co co':Nat}{vt:Value}{lt:List Ae}{l l':List Ab}(h:By w B vt (.slice q l.length co) lt l)(ho:AO w' B (.slice q l'.length co') l')(hg:w.grownBy w' (some q))(hp:∀x∈l',x∈l):By w' B vt (.slice q l'.length co') lt l'/\C9 w w':=by
 have hq:∃cur,w.heap[q]? =some (.cells cur 63 (0,0)):=by
  rcases h.o.2 with⟨hv,_⟩|⟨g,cap,cur,hv,_,hgg,_⟩
  ·cases hv
  ·cases hv;exact⟨cur,hgg⟩
 obtain⟨cq,hq⟩:=hq;have kk:C9 w w':=⟨hg.size,fun k cs t hk _ h1=>hg.block k (Array.getElem?_eq_some_iff.1 hk).1 (fun e=>by
  cases e;rw[hq]at hk;simp only[Option.some.injEq,Obj.cells.injEq,and_true]at hk;exact h1 hk.2.symm)⟩
 refine⟨⟨?_,ho,fun y hy=>(h.tn y hy).keeps kk.l,fun y hy=>(h.on y (hp y hy)).keeps kk.l,h.tc,fun y hy=>h.oc y (hp y hy)⟩,kk⟩;refine⟨h.t.1,?_⟩;rcases h.t.2 with hn|⟨g,cap,cur,hv,hbg,hgg,rest⟩
 ·exact .inl hn
 ·refine .inr ⟨g,cap,cur,hv,hbg,?_,rest⟩;refine(hg.block g (Array.getElem?_eq_some_iff.1 hgg).1 (fun e=>?_)).trans hgg;cases e;rw[hq]at hgg;simp at hgg
theorem By.setW{w:World}{B P i:Nat}{vt vo:Value}{lt:List Ae}{lo:List Ab}{cs:Array Value}(h:By w B vt vo lt lo)(hb:Ah w P (.cells cs 91))(u:Value):By (w.setCell ⟨P,i,none⟩ u) B vt vo lt lo:=by
 have k:=As (i:=i) hb (by decide) u;exact⟨h.t.set hb (by decide) u,h.o.set hb (by decide) u,fun x hx=>(h.tn x hx).keeps k,fun x hx=>(h.on x hx).keeps k,h.tc,h.oc⟩
theorem M4{L' L:List (List Nat)}(h:L'.Sublist L):L'.flatten.Sublist L.flatten:=by
 induction h with
 |slnil=>exact List.Sublist.refl _
 |cons a _ ih=>exact ih.trans (List.sublist_append_right _ _)
 |cons_cons a _ ih=>exact(List.Sublist.refl a).append ih
theorem Apart.subO{lt:List Ae}{l l':List Ab}(h:Apart lt l)(hs:l'.Sublist l):Apart lt l':=
 ⟨h.c.sublist ((List.Sublist.refl _).append (M4 (hs.map _))),h.i.sublist ((List.Sublist.refl _).append (M4 (hs.map _))),h.s.sublist (M4 (hs.map _))⟩
section
variable {E:Nat->Addr}{w:World}{B P:Nat}{s:Al}{g ca q co:Nat}{lt:List Ae}{lo:List Ab}{t c C:Nat}{nb:Nat->Nat}{kv:Nat->Value}{K:Nat->List Int}{X:Ae}
theorem Env.nodes(v:Env E w B P s g ca q co lt lo t c C nb kv K X):DW w C c lo.length (fun i=>(Aa lo i).id) q 0 nb kv (BF (fun i=>(Aa lo i).id) (fun i=>(Aa lo i).up) lo.length):=
 ⟨v.n.map,v.n.blk,v.n.inj,fun i hi=>by have h:=v.n.own i hi;rw[v.kid i hi]at h;exact h,v.n.apart,v.n.low,v.n.lowc⟩
theorem Ss{lt:List Ae}{lo:List Ab}(ok:okL lt lo=true){u:Nat}(hu:u<lo.length):(Aa lo u).id=1↔u=0:=by
 have r:=(Gv ok).2.1;constructor
 ·intro h;by_cases e:u=0
  ·exact e
  ·have h':(Aa lo 0).id<(Aa lo u).id:=(Bv.1 ok).rise 0 u (by omega) hu;omega
 ·intro e;subst e;exact r
theorem Yl(v:Env E w B P s g ca q co lt lo t c C nb kv K X)(hk:s.kind=11):
 Calls prog 75 #[.pointer P] w fun e w'=>∃r,e= .returned r/\Kc E B P s lt lo t X (.map (some c)) w w' ⟨#[]⟩ r:=by
 have VV:=hid v;have HK:=hid hk;obtain⟨⟨s0,s1,s2,s3,s4,s5,s6,s7,s8,s9⟩,_,_,c12,c13⟩:=Ah.jZ (show Ah w.drew P _ from v.h.wk);obtain⟨⟨k0,k1,k2,k3,k4,k5,k6,k7,k8,k9⟩,_,_,v12,v13⟩:=v.h.wk.jZ;have LK:=(v.n.below (Below.refl _ w).drew).map.look (cM (GP v.so));have LK2:=v.n.map.look (cM (GP v.so));have BX:Hid (∀W,Below w w W->Ah W P (.cells (If s g lt.length ca q lo.length co t (.map (some c))) 91)/\Fg W g (t*7) X/\(∀i,i<lo.length->W.cell? ⟨nb i,0,none⟩=some (.pointer (some ⟨q,i*10,none⟩))/\W.cell? ⟨nb i,1,none⟩=some (kv i))/\(∀i,i<lo.length->CZ W q (i*10) (Aa lo i))):=hid (fun W hW=>by
  have V:=VV.out.below hW;have C7:=(V.h.st.jJ V.ht).1;rw[<-V.hX]at C7;refine⟨V.h.wk,C7,fun i hi=>?_,fun i hi=>?_⟩
  ·have b:=V.n.blk i hi;rw[Nat.zero_add]at b;exact b.two
  ·have C0:=(V.h.st.jF hi (Cm V.ok)).1;rw[<-AM hi]at C0;exact C0)
 clear v hk;cases hf:Hf lo s.id with
 |none=>
  rw[show Bl (fun i=>(Aa lo i).id) lo.length s.id=none from hf]at LK LK2;simp only[Option.map_none]at LK LK2;have AN:Hid (FV X s lt lo t 4 ⟨#[]⟩ lt lo):=hid (.drop HK rfl rfl (.inl ⟨rfl,by unfold Ij;rw[hf],rfl⟩));clear hf;go_enter func75,ntmps75
  go_upto_region 1 with fail
  go_cut[3] from 5 (fun a wc=>a= .pointer none/\wc=w.drew)
  case first=>
   go_region_law fail
   all_goals(
    go_wp2_with fail
    go_meet;case rel=>exact⟨rfl,rfl⟩)
  case rest=>
   obtain⟨rfl,rfl⟩:=hcut;clear LK LK2 s0 s1 s2 s3 s4 s5 s6 s7 s8 s9 c12 c13 k0 k1 k2 k3 k4 k5 k6 k7 k8 k9 v12 v13;have A1:=hid (Below.refl w w).drew;have e9:=((VV.out.below A1).e 6 (by omega) (by omega)).1;have sz:=(VV.out.below A1).hB;go_wp2_with fail
   refine(Bq 257 (.pointer (some (E 6))) _).mono ?_;rintro e w9 ⟨rfl,rfl⟩;go_wp2;go_ret;have b3:=Af A1 (Be _ (.cells #[.int .i64 4,.iface 257 (.pointer (some (E 6)))] 54));exact⟨_,rfl,.no (.of (VV.out.below b3).h.wk) (b3.mono VV.out.hB) (Cn _ E sz 4 (by decide) 6 (by decide) (by decide) (by decide) (by first|rfl|simp)) (by decide) (AN)⟩
 |some u=>
  rw[show Bl (fun i=>(Aa lo i).id) lo.length s.id=some u from hf]at LK LK2;simp only[Option.map_some]at LK LK2;have HF:=hid hf;have ul:u<lo.length:=(AE hf).1;clear hf;go_enter func75,ntmps75
  go_upto_region 1 with fail
  go_cut[3] from 5 (fun a wc=>a= .pointer (nb u)/\wc=w.drew)
  case first=>
   go_region_law fail
   all_goals(
    go_wp2_with fail
    go_meet;case rel=>exact⟨rfl,rfl⟩)
  case rest=>
  obtain⟨rfl,rfl⟩:=hcut;clear LK LK2 s0 s1 s2 s3 s4 s5 s6 s7 s8 s9 c12 c13 k0 k1 k2 k3 k4 k5 k6 k7 k8 k9 v12 v13;have A1:=hid (Below.refl w w).drew;have n0:=((BX _ A1).2.2.1 u ul).1;have o0:w.drew.cell? ⟨q,u*10,none⟩=some (.int .i64 (Aa lo u).id):=((BX _ A1).2.2.2 u ul).c0;by_cases h1:(Aa lo u).id=1
  ·have AN:Hid (FV X s lt lo t 4 ⟨#[]⟩ lt lo):=hid (.drop HK rfl rfl (.inl ⟨rfl,by unfold Ij;rw[HF.out,(Ss VV.out.ok ul).1 h1];rfl,rfl⟩));rw[h1]at o0;clear h1;have e9:=((VV.out.below A1).e 7 (by omega) (by omega)).1;have sz:=(VV.out.below A1).hB;go_wp2_with fail
   refine(Bq 257 (.pointer (some (E 7))) _).mono ?_;rintro e w9 ⟨rfl,rfl⟩;go_wp2;go_ret;have b3:=Af A1 (Be _ (.cells #[.int .i64 4,.iface 257 (.pointer (some (E 7)))] 54));exact⟨_,rfl,.no (.of (VV.out.below b3).h.wk) (b3.mono VV.out.hB) (Cn _ E sz 4 (by decide) 7 (by decide) (by decide) (by decide) (by first|rfl|simp)) (by decide) (AN)⟩
  ·have z1:((Aa lo u).id==1)=false:=(by simpa using h1);have u0:u≠0:=fun e=>h1 ((Ss VV.out.ok ul).2 e);obtain⟨p,hp⟩:∃p,Hf lo (Aa lo u).up=some p:=Ql (k:=Cp none 0 none 0 lt lo) VV.out.ok ul u0;have HP:=hid hp;have pl:p<lo.length:=(AE hp).1;have UW:(Lit.int .i64 (Aa lo u).up).wf=true:=by
    rw[<-(AE hp).2];exact Ox (Ht VV.out.ok _ (FN pl))
   have LKP:Hid (∀W,Below w w W->_):=hid (fun W hW=>by
    have L:=(VV.out.below hW).n.map.look UW;rw[show Bl (fun i=>(Aa lo i).id) lo.length (Aa lo u).up=some p from hp]at L;exact L)
   clear h1 hp UW;go_upto_region 6 with fail
   clear n0 o0;have D0:=hid (A1.out.drew);have EC:Hid (∀args w,(callFunc 114 args).run prog w= .ok (.enter 114 args) w):=hid (enters_of func114 (by kernel_rfl) rfl);have EB:Hid (∀args w,(callFunc 66 args).run prog w= .ok (.enter 66 args) w):=hid (enters_of func66 (by kernel_rfl) rfl);have PS:=hid (Eg (VV.out.changes p pl _ D0));refine Am 27 (fun W=>Below w w W) (by kernel_rfl) ?_;have n1:Nv (.pointer P):=⟨⟩;refine tr 0 32 n1 D0 ?_;refine tr 1 33 n1 D0 ?_;refine tr 2 34 (.pointer (some ⟨P,12,none⟩)) D0 ?_;have n9:Nv (.pointer (some ⟨g,t*7,none⟩)):=⟨⟩;refine tr 3 35 n9 D0 ?_ (hy:=fun W h=>by obtain⟨⟨k0,k1,k2,k3,k4,k5,k6,k7,k8,k9⟩,k10,k11,k12,k13⟩:=(BX W h).1.jZ;go_simp);refine tr 4 36 n9 D0 ?_;refine tr 5 37 (.agg X) D0 ?_ (hy:=fun W h=>by have C:=(BX W h).2.1;have y0:=C.c0;have y1:=C.c1;have y2:W.cell? ⟨g,t*7+2,none⟩=some (.slice X.c1.a X.c1.n X.c1.k):=C.c2;have y3:=C.c3;have y4:W.cell? ⟨g,t*7+4,none⟩=some (.slice X.c2.a X.c2.n X.c2.k):=C.c4;have y5:W.cell? ⟨g,t*7+5,none⟩=some (.slice X.own.a X.own.n X.own.k):=C.c5;have y6:=C.c6;go_simp);refine tr 6 38 n1 D0 ?_;refine tr 7 39 n1 D0 ?_;refine tr 8 40 (.pointer (some ⟨P,13,none⟩)) D0 ?_;refine tr 9 41 (.map (some c)) D0 ?_ (hy:=fun W h=>by obtain⟨⟨k0,k1,k2,k3,k4,k5,k6,k7,k8,k9⟩,k10,k11,k12,k13⟩:=(BX W h).1.jZ;go_simp);have n2:Nv (.pointer (nb u)):=⟨⟩;refine tr 10 42 n2 D0 ?_;refine tr 11 43 n2 D0 ?_;refine tr 12 44 n2 D0 ?_;have n6:Nv (.pointer (some ⟨q,u*10,none⟩)):=⟨⟩;refine tr 13 45 n6 D0 ?_ (hy:=fun W h=>by have y:=((BX W h).2.2.1 u ul).1;go_simp);refine tr 14 46 n6 D0 ?_;refine tr 15 47 (.pointer (some ⟨q,u*10+2,none⟩)) D0 ?_;refine tr 16 48 (.int .i64 (Aa lo u).up) D0 ?_ (hy:=fun W h=>by have y:=((BX W h).2.2.2 u ul).c2;go_simp);have n4:Nv (.pointer (nb p)):=⟨⟩;refine tr 17 49 n4 D0 ?_ (hy:=fun W h=>by have y:=LKP.out W h;go_simp);refine tr 18 50 n4 D0 ?_;refine tr 19 51 n4 D0 ?_;have n8:Nv (.pointer (some ⟨q,p*10,none⟩)):=⟨⟩;refine tr 20 52 n8 D0 ?_ (hy:=fun W h=>by have y:=((BX W h).2.2.1 p pl).1;go_simp);refine tr 21 53 n8 D0 ?_;refine tr 22 54 (.pointer (some ⟨q,p*10+3,none⟩)) D0 ?_;refine tr 23 55 (.agg #[.int .i64 (Aa lo p).b1,.slice (Aa lo p).c1.a (Aa lo p).c1.n (Aa lo p).c1.k]) D0 ?_ (hy:=fun W h=>by have C:=(BX W h).2.2.2 p pl;have y1:W.cell? ⟨q,p*10+3,none⟩=some (.int .i64 (Aa lo p).b1):=C.c3;have y2:W.cell? ⟨q,p*10+3+1,none⟩=some (.slice (Aa lo p).c1.a (Aa lo p).c1.n (Aa lo p).c1.k):=C.c4;go_simp);refine Ac (i:=24) (by kernel_rfl) rfl ?_;intro K hK;refine AJ (by rfl) 114 _ _ _ (by rfl) EC _ _ (by rfl) (by rfl) (some 56) (by rfl) _ PS ?_;rintro v w4 ⟨rfl,b4⟩;have V1:=hid (Af D0 b4);refine hK _ _ (fun _=>V1) ?_;clear hK K b4 PS;simp only[ap,List.set];refine tr 25 57 (.bool (!Ap X (Aa lo p).b1 (Aa lo p).c1)) V1 ?_;refine tr 26 31 (.bool (!Ap X (Aa lo p).b1 (Aa lo p).c1)) V1 ?_;refine Ai (by kernel_rfl) ?_ _;cases hc:Ap X (Aa lo p).b1 (Aa lo p).c1 with
   |false=>
    have AN:Hid (FV X s lt lo t 4 ⟨#[]⟩ lt lo):=hid (.drop HK rfl rfl (.inl ⟨rfl,by unfold Ij;rw[HF.out];simp only;rw[HP.out];simp only;rw[hc];simp,rfl⟩));clear hc;have e9:=((VV.out.below V1).e 8 (by omega) (by omega)).1;have sz:=(VV.out.below V1).hB;go_wp2_with fail
    refine(Bq 257 (.pointer (some (E 8))) _).mono ?_;rintro e w9 ⟨rfl,rfl⟩;go_wp2;go_ret;have b3:=Af V1 (Be _ (.cells #[.int .i64 4,.iface 257 (.pointer (some (E 8)))] 54));exact⟨_,rfl,.no (.of (VV.out.below b3).h.wk) (b3.mono VV.out.hB) (Cn _ E sz 4 (by decide) 8 (by decide) (by decide) (by decide) (by first|rfl|simp)) (by decide) (AN)⟩
   |true=>
    have DB:Hid (Ij X lo s.id=true):=hid (by unfold Ij;rw[HF.out];simp only;rw[HP.out];simp only;rw[hc];simp;omega);clear hc;go_upto_region 8 with fail
    have D2:=hid V1.out.drew;have PB:Hid (∀W,Below w w W->Calls prog 66 #[.map (some c),.int .i64 (Aa lo u).id] W fun e w'=>∃v,e= .returned v/\∃(a:Option Addr) (k:Nat),v= .slice a (BZ lo u).length k/\Az w' W (.slice a (BZ lo u).length k) (BZ lo u)/\Below W W w'):=hid (fun W hW=>by
     have V:=VV.out.below hW;have ok:=V.ok;have ho:Ch lo.length (Aa lo)=true:=(BQ (k:=Cp none 0 none 0 lt lo) ok).2.1;have on:=Ec ok;refine(Qn W C c lo.length (fun i=>(Aa lo i).id) (fun i=>(Aa lo i).up) q 0 nb kv V.nodes (BH ho) (fun j hj=>by have:=Ea ho j hj;have:=(Cl ho).2.2;omega) (fun i hi=>Ox (Ht ok _ (FN hi))) (by omega) u ul (Jq (k:=Cp none 0 none 0 lt lo) ok ul)).mono ?_;rintro e w' ⟨v,rfl,h1,h2⟩;obtain⟨a,k,rfl⟩:=Az.form h1;exact⟨_,rfl,a,k,rfl,h1,h2⟩)
    go_cut[4] from 60 (fun x wc=>∃(vb:Nat) (a:Option Addr) (k:Nat),x= .pointer vb/\Ah wc vb (.cells #[.slice a (BZ lo u).length k] 55)/\Az wc w (.slice a (BZ lo u).length k) (BZ lo u)/\Below w w wc/\w.heap.size<=vb)
    case first=>
     refine Am 13 (fun W=>Below w w W) (by kernel_rfl) ?_;have n10:Nv (.pointer P):=⟨⟩;refine tr 0 60 n10 D2 ?_;refine tr 1 61 n10 D2 ?_;refine tr 2 62 (.pointer (some ⟨P,13,none⟩)) D2 ?_;refine tr 3 63 (.map (some c)) D2 ?_ (hy:=fun W h=>by obtain⟨⟨k0,k1,k2,k3,k4,k5,k6,k7,k8,k9⟩,k10,k11,k12,k13⟩:=(BX W h).1.jZ;go_simp);have n3:Nv (.pointer (nb u)):=⟨⟩;refine tr 4 64 n3 D2 ?_;refine tr 5 65 n3 D2 ?_;refine tr 6 66 n3 D2 ?_;have n7:Nv (.pointer (some ⟨q,u*10,none⟩)):=⟨⟩;refine tr 7 67 n7 D2 ?_ (hy:=fun W h=>by have y:=((BX W h).2.2.1 u ul).1;go_simp);refine tr 8 68 n7 D2 ?_;refine tr 9 69 n7 D2 ?_;refine tr 10 70 (.int .i64 (Aa lo u).id) D2 ?_ (hy:=fun W h=>by have y:=((BX W h).2.2.2 u ul).c0;go_simp);refine Ct (i:=11) (j:=12) (by kernel_rfl) rfl rfl ?_ ?_
     ·intro K hK;refine AJ (by rfl) 66 _ _ _ (by rfl) EB _ _ (by rfl) (by rfl) (some 71) (by rfl) _ (PB _ D2) ?_;rintro v w5 ⟨a,k,rfl,o5,b5⟩;have V5:=hid (Af D2 b5);have O5:=hid o5;refine hK _ _ (fun _=>V5) ?_;clear hK K o5 b5;simp only[ap,List.set];refine Ac (i:=12) (by kernel_rfl) rfl ?_;intro K hK;go_simp;have V6:=hid (Af V5 (Be w5 (.cells #[.slice none 0 0] 55)));refine hK _ _ (fun _=>V6) ?_;clear hK K;try simp only[ap,List.set]
      refine Ac (i:=13) (by kernel_rfl) rfl ?_;intro K hK;go_simp;refine hK _ _ (fun h=>absurd h (by decide)) ?_;clear hK K;try simp only[Act.put]
      refine Ai (by kernel_rfl) ?_ _;go_wp2_with fail
      go_meet;case rel=>
       have b6:=Be w5 (.cells #[.slice a (BZ lo u).length k] 55);exact⟨w5,a,k,rfl,Ah.new w5 _,Az.base (own_below O5 b6) D2.out.size,Af V5 b6,V5.out.size⟩
     ·intro K hK;have n5:No (.cells #[.slice none 0 0] 55):=⟨⟩;have V5:=hid (D2.out.alloc D2.out.size n5);have ZV:Hid (Ah (w4.alloc n5).drew w4 n5):=hid (Ah.new w4 _);go_simp;refine hK _ _ (fun _=>V5) ?_;clear hK K;try simp only[ap,List.set]
      refine Ac (i:=11) (by kernel_rfl) rfl ?_;intro K hK;refine AJ (by rfl) 66 _ _ _ (by rfl) EB _ _ (by rfl) (by rfl) (some 71) (by rfl) _ (PB _ V5) ?_;rintro v w6 ⟨a,k,rfl,o6,b6⟩;have V6:=hid (Af V5 b6);have O6:=hid o6;have Z6:=hid (ZV.out.below b6);refine hK _ _ (fun _=>V6) ?_;clear hK K o6 b6;simp only[ap,List.set];have z0:w6.cell? ⟨w4,0,none⟩=some (.slice none 0 0):=(by have h:=Z6.out;unfold Ah at h;simp[World.cell?,h]);have zf:=Z6.out.jC;refine Ac (i:=13) (by kernel_rfl) rfl ?_;intro K hK;go_simp;refine hK _ _ (fun h=>absurd h (by decide)) ?_;clear hK K;try simp only[Act.put]
      refine Ai (by kernel_rfl) ?_ _;go_wp2_with fail
      go_meet;case rel=>
       have gs:=Aq (w:=w6) (w1:=w6) (q:=w4.heap.size) ⟨rfl,rfl,rfl,Nat.le_refl _,fun _ _ _=>rfl⟩ 0 (.slice a (BZ lo u).length k);exact⟨w4,a,k,rfl,Z6.out.jB (i:=0) _,Az.base (World.ownsRow.kept O6 gs (.inr (fun e=>absurd (World.ownsRow.lt O6 w4 e).1 (by simp)))) V5.out.size,V6.out.setCell (p:=⟨w4,0,none⟩) V1.out.size _,V1.out.size⟩
    case rest=>
     obtain⟨vb,a,k,rfl,BV,OG,hb,hvb⟩:=hcut;generalize wc=w6 at *;have BV':=hid BV;have OG':=hid OG;have A6:=hid hb;clear BV OG hb;have V6:=VV.out.below A6.out;have ql:q<w.heap.size:=(VV.out.h.st.jF ul (Cm VV.out.ok)).2;have vc:w6.cell? ⟨vb,0,none⟩=some (.slice a (BZ lo u).length k):=(by have h:=BV'.out;unfold Ah at h;simp[World.cell?,h]);have on:=Ec VV.out.ok;have ogl:(BZ lo u).length<=maxLen:=Nat.le_trans (Dm OG').1 (Dm OG').2;have DF:=hid (Ry B q co vb lo ⟨a,(BZ lo u).length,k,AX (BZ lo u)⟩ w6 V6.h.st.o (by omega) vc BV'.out.lt (by omega) (fun W hW=>(Az.new (World.ownsRow.kept OG' hW (.inr (fun e=>by have h:=(World.ownsRow.lt OG' q e).1;omega))) ogl).1));have H6:=hid V6.h;obtain⟨⟨k0,k1,k2,k3,k4,k5,k6,k7,k8,k9⟩,k10,k11,k12,k13⟩:=V6.h.wk.jZ;clear V6 vc;go_wp2_with fail
     refine DF.out.mono ?_;rintro e w7 ⟨rfl,o7,g7⟩;obtain⟨K7,kk⟩:=H6.out.st.subO o7 g7 (fun x hx=>(List.mem_filter.1 hx).1);have BP:=H6.out.wk.grown g7 (fun e=>H6.out.setQ (Option.some.inj e));obtain⟨⟨j0,j1,j2,j3,j4,j5,j6,j7,j8,j9⟩,j10,j11,j12,j13⟩:=BP.jZ;have pf:=BP.jC;have AP7:=hid (H6.out.ap.subO (l':=Gr ⟨a,(BZ lo u).length,k,AX (BZ lo u)⟩ lo) List.filter_sublist);have KF:=hid K7;have BP':=hid BP;have hBq:B<=q:=(World.ownsRow.lt H6.out.st.o q rfl).1;have B7:Hid (Below B w w7):=hid ((A6.out.mono VV.out.hB).trans (below_grown g7 (Nat.le_trans VV.out.hB A6.out.size) (fun j e=>by have:=Option.some.inj e;omega)));have lp:=H6.out.lp;clear K7 kk BP o7 g7 k0 k1 k2 k3 k4 k5 k6 k7 k8 k9 k10 k11 k12 k13;go_wp2;go_ret;refine⟨_,rfl,.yes (B7.out.setCell (p:=⟨P,11,none⟩) lp _) ⟨(KF.out.setW BP' _).f,AP7,BP'.out.jB (i:=11) _⟩ (.drop HK rfl rfl (.inr ⟨rfl,DB,u,HF,by omega,?_⟩))⟩;unfold Eo Gr;rw[List.take_of_length_le nr]
end
def Tryz.sortFA_ren:Go.Shelf.Ren:=⟨fun|6=>110|15=>131|14=>135|28=>151|29=>152|20=>154|21=>155|22=>156|23=>157|24=>158|25=>159|26=>160|27=>161|46=>178|47=>170|48=>171|49=>179|50=>180|57=>192|n=>n,fun|22=>25|24=>63|25=>166|3=>3|39=>161|0=>0|53=>208|55=>159|4=>4|46=>200|45=>199|50=>205|5=>5|9=>9|66=>226|70=>229|76=>244|77=>245|n=>n,fun|n=>n⟩
theorem Tryz.sortFA:Go.Proofs.SlLaysF0.n6 prog Tryz.sortFA_ren:={
 mixed:=by kernel_rfl
 f6:=⟨Tryz.f110.name,by decide,func110.trans (congrArg some (by kernel_rfl))⟩
 f14:=⟨Tryz.f135.name,by decide,func135.trans (congrArg some (by kernel_rfl))⟩
 f15:=func131.trans (congrArg some (by kernel_rfl))
 f20:=⟨Tryz.f154.name,by decide,func154.trans (congrArg some (by kernel_rfl))⟩
 f21:=⟨Tryz.f155.name,by decide,func155.trans (congrArg some (by kernel_rfl))⟩
 f22:=⟨Tryz.f156.name,by decide,func156.trans (congrArg some (by kernel_rfl))⟩
 f23:=⟨Tryz.f157.name,by decide,func157.trans (congrArg some (by kernel_rfl))⟩
 f24:=⟨Tryz.f158.name,by decide,func158.trans (congrArg some (by kernel_rfl))⟩
 f25:=⟨Tryz.f159.name,by decide,func159.trans (congrArg some (by kernel_rfl))⟩
 f26:=⟨Tryz.f160.name,by decide,func160.trans (congrArg some (by kernel_rfl))⟩
 f27:=⟨Tryz.f161.name,by decide,func161.trans (congrArg some (by kernel_rfl))⟩
 f28:=func151.trans (congrArg some (by kernel_rfl))
 f29:=func152.trans (congrArg some (by kernel_rfl))
 f46:=⟨Tryz.f178.name,by decide,func178.trans (congrArg some (by kernel_rfl))⟩
 f47:=func170.trans (congrArg some (by kernel_rfl))
 f48:=func171.trans (congrArg some (by kernel_rfl))
 f49:=⟨Tryz.f179.name,by decide,func179.trans (congrArg some (by kernel_rfl))⟩
 f50:=⟨Tryz.f180.name,by decide,func180.trans (congrArg some (by kernel_rfl))⟩
 f57:=⟨Tryz.f192.name,by decide,func192.trans (congrArg some (by kernel_rfl))⟩
 t0:=underlying0
 a0:=isAgg0
 z0:=sizeOf0
 v0:=zeroValue0
 t3:=underlying3
 a3:=isAgg3
 z3:=sizeOf3
 v3:=zeroValue3
 t4:=underlying4
 a4:=isAgg4
 z4:=sizeOf4
 v4:=zeroValue4
 t5:=underlying5
 a5:=isAgg5
 z5:=sizeOf5
 v5:=zeroValue5
 t9:=underlying9
 a9:=isAgg9
 z9:=sizeOf9
 v9:=zeroValue9
 t22:=underlying25
 a22:=isAgg25
 z22:=sizeOf25
 v22:=zeroValue25
 t25:=underlying166
 a25:=isAgg166
 z25:=sizeOf166
 v25:=zeroValue166
 t39:=underlying161
 a39:=isAgg161
 z39:=sizeOf161
 v39:=zeroValue161
 t45:=underlying199
 a45:=isAgg199
 z45:=sizeOf199
 v45:=zeroValue199
 t46:=underlying200
 a46:=isAgg200
 z46:=sizeOf200
 v46:=zeroValue200
 t50:=underlying205
 a50:=isAgg205
 z50:=sizeOf205
 v50:=zeroValue205
 t53:=underlying208
 a53:=isAgg208
 z53:=sizeOf208
 v53:=zeroValue208
 t55:=underlying159
 a55:=isAgg159
 z55:=sizeOf159
 v55:=zeroValue159
 t66:=underlying226
 a66:=isAgg226
 z66:=sizeOf226
 v66:=zeroValue226
 t70:=underlying229
 a70:=isAgg229
 z70:=sizeOf229
 v70:=zeroValue229
 t76:=underlying244
 a76:=isAgg244
 z76:=sizeOf244
 v76:=zeroValue244
 t77:=underlying245
 a77:=isAgg245
 z77:=sizeOf245
 v77:=zeroValue245}
open Go.Sort
instance objInh:Inhabited Ab:=⟨Ab.z⟩
def Ta(x y:Int):Int:=if x<y then-1 else if y<x then 1 else 0
theorem JF(x:Int)(w:World):Calls prog 136 #[.int .i64 x] w fun e w'=>e= .returned (.bool false)/\w'=w:=by
 go_enter func136,ntmps136
 go_wp2;go_ret;exact⟨by simp,rfl⟩
theorem SE(x y:Int)(w:World):Calls prog 112 #[.int .i64 x,.int .i64 y] w fun e w'=>e= .returned (.int .i64 (Ta x y))/\w'=w:=by
 unfold Ta;by_cases h1:x<y
 ·rw[if_pos h1];go_enter func112,ntmps112
  go_wp2_with fail
  refine(JF x w).mono ?_;rintro e w1 ⟨rfl,rfl⟩;go_wp2_with fail
  refine(JF y _).mono ?_;rintro e w1 ⟨rfl,rfl⟩;go_wp2;go_ret;exact⟨rfl,rfl⟩
 ·rw[if_neg h1];by_cases h2:y<x
  ·rw[if_pos h2];go_enter func112,ntmps112
   go_wp2_with fail
   refine(JF x w).mono ?_;rintro e w1 ⟨rfl,rfl⟩;go_wp2_with fail
   refine(JF y _).mono ?_;rintro e w1 ⟨rfl,rfl⟩;go_wp2;go_ret;exact⟨rfl,rfl⟩
  ·rw[if_neg h2];go_enter func112,ntmps112
   go_wp2_with fail
   refine(JF x w).mono ?_;rintro e w1 ⟨rfl,rfl⟩;go_wp2_with fail
   refine(JF y _).mono ?_;rintro e w1 ⟨rfl,rfl⟩;go_wp2;go_ret;exact⟨rfl,rfl⟩
theorem Yn(w:World)(A B:Obj):(w.alloc A).alloc B=grow (w.drewN 0) #[A,B]:=by
 have e:w.heap++#[A,B]=(w.heap.push A).push B:=by
  show w.heap++(#[].push A).push B=_;rw[Array.append_push,Array.append_push,Array.append_empty]
 show _={w.drewN 0 with heap:=w.heap++#[A,B]};rw[e];rfl
theorem Xo(x y:Ab)(w:World):Calls prog 111 #[.agg x.cs.toArray,.agg y.cs.toArray] w fun e w'=>e= .returned (.int .i64 (Ta x.id y.id))/\∃q os',w'=grow (w.drewN q) os':=by
 unfold Ab.cs Au.val AI.val AF.val;go_enter func111,ntmps111
 go_wp2_with fail
 refine(SE x.id y.id _).mono ?_;rintro e w1 ⟨rfl,rfl⟩;go_wp2;go_ret;refine⟨rfl,0,_,Yn _ _ _⟩
theorem Vj:∀(l:List Ab) (t:Nat),t<l.length*10->(Aw l)[t]? =some ((l[t/10]!).cs[t%10]!)
 |[],t,h=>by simp at h
 |x::r,t,h=>by
  have e:Aw (x::r)=x.cs++Aw r:=by simp[Aw]
  rw[e];by_cases h1:t<10
  ·rw[List.getElem?_append_left (by rw[Ab.jK];exact h1),Nat.div_eq_of_lt h1,Nat.mod_eq_of_lt h1];have h2:t<x.cs.length:=(by rw[Ab.jK];exact h1);simp[h2,getElem!_pos]
  ·rw[List.getElem?_append_right (by rw[Ab.jK];omega),Ab.jK,Vj r (t-10) (by simp at h;omega)];have h2:t/10=(t-10)/10+1:=(by omega);have h3:t%10=(t-10)%10:=(by omega);rw[h2,h3];simp
theorem My(l:List Ab):(flatK Ab.cs 10 l.toArray).toList=Aw l:=by
 refine List.ext_getElem? (fun t=>?_);by_cases h:t<l.length*10
 ·rw[Vj l t h];have hs:t<(flatK Ab.cs 10 l.toArray).size:=by simp;exact h
  rw[Array.getElem?_toList,Array.getElem?_eq_getElem hs];have:=get_flatK Ab.cs 10 l.toArray t (by simpa using h);rw[getElem!_pos _ t hs]at this;rw[this];simp
 ·rw[List.getElem?_eq_none (by simp;omega),List.getElem?_eq_none (by rw[Gs];omega)]
theorem az:SWO (ltOf fun x y:Ab=>Ta x.id y.id):=by
 have e:∀x y:Ab,ltOf (fun x y:Ab=>Ta x.id y.id) x y=decide (x.id<y.id):=fun x y=>by
  unfold ltOf Ta;dsimp only;by_cases h:x.id<y.id
  ·simp[h]
  ·by_cases h2:y.id<x.id<;>simp[h,h2]
 refine⟨fun x=>by rw[e];simp,fun x y z h1 h2=>?_,fun x y z h1 h2=>?_⟩
 ·rw[e]at *;simp at *;omega
 ·rw[e]at *;simp at *;omega
theorem ZB(cur:Array Value)(F:Array Value)(h:F.size<=cur.size):(putCells id 0 F cur).toList.take F.size=F.toList:=by
 apply List.ext_getElem?;intro j;by_cases hj:j<F.size
 ·rw[List.getElem?_take_of_lt hj,Array.getElem?_toList];simp[putCells,hj,show j<cur.size by omega]
 ·rw[List.getElem?_take_eq_none (by omega),List.getElem?_eq_none (by simp;omega)]
theorem aK:∀(x:Ab),∀v∈x.cs,v.oneCell'=true:=fun x v hv=>Mi (l:=[x]) v (by simp[Aw];exact hv)
theorem WW(B q co:Nat)(l:List Ab)(w:World)(h:AO w B (.slice q l.length co) l)(hn:l.length<=1048576)(h0:0<l.length):
 Calls prog 110 #[.slice q l.length co,.func (.func 111) #[] #[]] w fun e w'=>e= .returned (.tuple #[])/\∃l',l'.Perm l/\l'.Pairwise (fun a b=>¬b.id<a.id)/\AO w' B (.slice q l'.length co) l'/\w.grownBy w' (some q):=by
 have hc:=h;rcases hc.2 with⟨hv,_⟩|⟨g',cap,cur,hv,hB,hgg,h1,h2,h3,h4⟩
 ·cases hv
 cases hv;have HK:HoldsK Ab.cs 10 w q 0 l.toArray:=fun j hj=>by
  have hj':j<l.length*10:=by simpa using hj
  have hcur:j<cur.size:=by rw[h3];omega
  have e1:cur.toList[j]? =(Aw l)[j]?:=by rw[<-h4,List.getElem?_take_of_lt hj']
  rw[<-My,Array.getElem?_toList,Array.getElem?_toList,Array.getElem?_eq_getElem hj]at e1;refine⟨?_,by simp[World.frozen?,hgg]⟩;rw[Nat.zero_add];simp only[World.cell?,hgg];rw[getElem!_pos (flatK Ab.cs 10 l.toArray) j hj];simpa using e1
 have ql:q<w.heap.size:=(World.ownsRow.lt h q rfl).2;have S:=AnyQ.slices_SortFunc Tryz.sortFA 10 isAgg63 sizeOf63 Ab.cs Ab.jK aK (fun x y:Ab=>Ta x.id y.id) az 111 #[] q 0 co l.toArray w (enters_of func111 (by kernel_rfl) rfl) (fun m os dk _ x y=>Xo x y _) HK ql (by simp;omega);have S':Calls prog 110 #[.slice q l.toArray.size co,.func (.func 111) #[] #[]] w _:=S;rw[show l.toArray.size=l.length from by simp]at S';refine S'.mono ?_;rintro e w' ⟨rfl,d',n,os,hp,hs,rfl⟩;obtain⟨hsz,_,hperm⟩:=hp;have hsz':d'.size=l.length:=by simpa using hsz
 have pm:d'.toList.Perm l:=by
  have e1:(d'.extract 0 l.length).toList=d'.toList:=by rw[<-hsz'];simp
  have e2:(l.toArray.extract 0 l.length).toList=l:=by simp
  rw[e1,e2]at hperm;exact hperm
 have ln:d'.toList.length=l.length:=by simpa using hsz'
 have hk:(sortWorldK Ab.cs 10 w q 0 n d' os).heap[q]? =some (.cells (putCells id 0 (flatK Ab.cs 10 d') cur) 63 (0,0)):=by
  unfold sortWorldK grow putRowK putRow mapBlock Sort.ahead;rw[Array.getElem?_append_left (by simpa using ql)];simp[Array.getElem?_modify,hgg,onCells]
 have fs:(flatK Ab.cs 10 d').size<=cur.size:=by rw[size_flatK,hsz',h3];exact Nat.mul_le_mul_right _ h1
 refine⟨rfl,d'.toList,pm,?_,?_,?_⟩
 ·rw[List.pairwise_iff_getElem];intro i j hi hj hij;have:=hs i j (Nat.zero_le _) hij (by simpa using(by omega:j<l.length));have hi':i<d'.size:=by omega
  have hj':j<d'.size:=by omega
  rw[getElem!_pos d' j hj',getElem!_pos d' i hi']at this;unfold ltOf Ta at this;simp only[decide_eq_false_iff_not]at this;intro hlt;have hlt':d'[j].id<d'[i].id:=by simpa using hlt
  rw[if_pos hlt']at this;omega
 ·refine⟨by rw[Gs],.inr ⟨q,co,_,rfl,hB,hk,by rw[ln];exact h1,h2,by simp[putCells,h3],?_⟩⟩;have:=ZB cur (flatK Ab.cs 10 d') fs;rw[size_flatK,show d'.size=d'.toList.length from by simp]at this;rw[this];have:=My d'.toList;simpa using this
 ·refine⟨rfl,rfl,rfl,by simp[sortWorldK,grow,putRowK,putRow,mapBlock,Sort.ahead],fun k hk' hne=>?_⟩;have:q≠k:=fun e=>hne (by rw[e]);unfold sortWorldK grow putRowK putRow mapBlock Sort.ahead;rw[Array.getElem?_append_left (by simpa using hk')];simp[Array.getElem?_modify,this]
end Go.Proofs.YtefoofaocbjdoaaGreatDoor
