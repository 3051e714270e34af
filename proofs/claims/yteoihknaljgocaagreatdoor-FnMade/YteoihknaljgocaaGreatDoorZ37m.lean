import Derived.Shelf.SlSortCmp.WholeK
import Derived.Ground.SlsfProg
import Derived.Test.YteoihknaljgocaaGreatDoorZ28m
set_option maxRecDepth 100000
set_option maxHeartbeats 16000000
namespace Go.Proofs.YteoihknaljgocaaGreatDoor
open Go Go.RowKit Go.Deep Go.Maps Go.BigFrame Go.Shelf Go.Proofs.Tryz
def My(X:Ae)(s:Al)(lo:List Ab)(c:Int):Prop:=(c=4/\FU X s lo=false)∨(c=5/\FU X s lo=true/\X.made=30)∨(c=0/\FU X s lo=true/\X.made≠30)
theorem Lv{X:Ae}{s:Al}{lo:List Ab}(h:FU X s lo=false):My X s lo 4:= .inl ⟨rfl,h⟩
theorem Fs{X:Ae}{s:Al}{lo:List Ab}{u:Nat}(h:Gl lo s.id=some u):FU X s lo=(decide ((Aa lo u).kind=3)&&Ap X (Aa lo u).b1 (Aa lo u).c1&&CY X.b1 X.c1 X.own s.b1 s.c1&&CY s.b1 s.c1 X.own X.b2 X.c2&&(!decide (0<s.cat)||hasB X.own.n X.own.h s.cat)):=by
 unfold FU;rw[h]
theorem JL(w:World)(A B:Obj):Ag ((w.alloc A).alloc B).drew w A/\Ag ((w.alloc A).alloc B).drew (w.heap.size+1) B/\Below w w ((w.alloc A).alloc B).drew:=
 ⟨(Ag.new w A).alloc B,by have h:=Ag.new (w.alloc A) B;rw[show(w.alloc A).heap.size=w.heap.size+1 from by simp]at h;exact h,((Bf w _).alloc (by simp) _).drew⟩
section
variable {E:Nat->Addr}{w:World}{B P:Nat}{s:Al}{g ca q co:Nat}{lt:List Ae}{lo:List Ab}{t c C:Nat}{nb:Nat->Nat}{kv:Nat->Value}{K:Nat->List Int}{X:Ae}
theorem Sm(v:Env E w B P s g ca q co lt lo t c C nb kv K X)(hcat:0<=s.cat):
 Calls prog 123 #[.pointer P] w fun e w'=>∃r,e= .returned r/\Below w w w'/\∃c',Told w' B E r c'/\My X s lo c':=by
 have VV:=hid v;have CW:=(v.h.st.jJ v.ht).1;have gl:=(v.h.st.jJ v.ht).2;rw[<-v.hX]at CW;obtain⟨⟨s0,s1,s2,s3,s4,s5,s6,s7,s8,s9⟩,_,_,c12,_⟩:=Ag.jZ (show Ag w.drew P _ from v.h.wk);have pl:P<w.heap.size:=v.h.wk.lt;have q0:w.drew.cell? ⟨g,t*7,none⟩=some (.int .i64 X.id):=CW.c0;have q1:w.drew.cell? ⟨g,t*7+1,none⟩=some (.int .i64 X.b1):=CW.c1;have q2:w.drew.cell? ⟨g,t*7+2,none⟩=some (.slice X.c1.a X.c1.n X.c1.k):=CW.c2;have q3:w.drew.cell? ⟨g,t*7+3,none⟩=some (.int .i64 X.b2):=CW.c3;have q4:w.drew.cell? ⟨g,t*7+4,none⟩=some (.slice X.c2.a X.c2.n X.c2.k):=CW.c4;have q5:w.drew.cell? ⟨g,t*7+5,none⟩=some (.slice X.own.a X.own.n X.own.k):=CW.c5;have q6:w.drew.cell? ⟨g,t*7+6,none⟩=some (.int .i64 X.made):=CW.c6;obtain⟨⟨k0,k1,k2,k3,k4,k5,k6,k7,k8,k9⟩,_,_,v12,_⟩:=v.h.wk.jZ;have p0:w.cell? ⟨g,t*7,none⟩=some (.int .i64 X.id):=CW.c0;have p1:w.cell? ⟨g,t*7+1,none⟩=some (.int .i64 X.b1):=CW.c1;have p2:w.cell? ⟨g,t*7+2,none⟩=some (.slice X.c1.a X.c1.n X.c1.k):=CW.c2;have p3:w.cell? ⟨g,t*7+3,none⟩=some (.int .i64 X.b2):=CW.c3;have p4:w.cell? ⟨g,t*7+4,none⟩=some (.slice X.c2.a X.c2.n X.c2.k):=CW.c4;have p5:w.cell? ⟨g,t*7+5,none⟩=some (.slice X.own.a X.own.n X.own.k):=CW.c5;have p6:w.cell? ⟨g,t*7+6,none⟩=some (.int .i64 X.made):=CW.c6;have n1:¬P=w.heap.size:=by omega
 have n2:¬P=w.heap.size+1:=by omega
 have n3:¬g=w.heap.size:=by omega
 have n4:¬g=w.heap.size+1:=by omega
 have HC:=hid hcat;clear v CW hcat;go_enter func123,ntmps123
 go_upto_region 1 with fail
 go_cut[3,4] from 5 (fun a b w1=>∃p r,a= .pointer (some ⟨p,0,none⟩)/\b= .pointer (some ⟨r,0,none⟩)/\Ag w1 p (.cells s 32)/\Ag w1 r (.cells X 39)/\Below w w w1)
 case first=>
  go_region_law fail
  all_goals(
   go_wp2_with fail
   go_meet;case rel=>first|exact⟨_,_,rfl,rfl,(JL w _ _).1,(JL w _ _).2.1,(JL w _ _).2.2⟩|exact⟨_,_,rfl,rfl,(JL w _ _).2.1,(JL w _ _).1,(JL w _ _).2.2⟩)
 case rest=>
  obtain⟨p,r,rfl,rfl,AP,AR,hb⟩:=hcut;generalize wc=w1 at *;have A1:=hid hb;have SP:=hid AP;have TR:=hid AR;clear hb AP AR s0 s1 s2 s3 s4 s5 s6 s7 s8 s9 c12 q0 q1 q2 q3 q4 q5 q6 k0 k1 k2 k3 k4 k5 k6 k7 k8 k9 v12 p0 p1 p2 p3 p4 p5 p6 n1 n2 n3 n4 pl gl;have V1:=VV.out.below A1.out;have THH:=hid (Ju w1 B P s g ca q co lt lo t c C lo.length _ nb kv K V1.h V1.n nr (Cm V1.ok) s.id (bS (GB V1.so)));clear V1;obtain⟨x0,x1,x2,x3,x4,x5,x6,x7,x8,x9⟩:=SP.out.jE;go_wp2_with fail
  refine THH.out.mono ?_;rintro e w2 ⟨hr,b2⟩;have B2:=hid b2;have A2:=hid (Af A1 b2);clear THH b2 x0 x1 x2 x3 x4 x5 x6 x7 x8 x9;rcases hr with⟨hf,rfl⟩|⟨u,hf,rfl⟩
  ·have MP:Hid (My X s lo 4):=hid (Lv (by unfold FU;rw[show Gl lo s.id=none from hf]));clear hf;have a0:=YF 184 w2;have A3:=hid (Af A2 (Bf w2 (.cells #[.pointer none] 193)));have e9:=((VV.out.below A3).e 6 (by omega) (by omega)).1;have sz:=(VV.out.below A3).hB;go_wp2_with fail
   refine(Bv 259 (.pointer (some (E 6))) _).mono ?_;rintro e w9 ⟨rfl,rfl⟩;go_wp2;go_ret;have b3:=Af A3 (Bf _ (.cells #[.int .i64 4,.iface 259 (.pointer (some (E 6)))] 66));exact⟨_,rfl,b3,4,Cl _ E sz 4 (by decide) 6 (by decide) (by decide) (by decide) (by first|rfl|simp),MP⟩
  ·obtain⟨ul,_⟩:=Av hf;have HF:Hid (Gl lo s.id=some u):=hid hf;clear hf;by_cases h3:(Aa lo u).kind=3;rotate_left
   ·have MP:Hid (My X s lo 4):=hid (Lv (by rw[Fs HF.out];simp[h3]));have hT:Ew (Aa lo u).kind≠193:=by
     unfold Ew;split
     ·decide
     ·split
      ·decide
      ·first|decide|(rw[if_neg h3];decide)
    generalize Ew (Aa lo u).kind=T at hT ⊢;have a0:=XY 184 T (.agg #[.pointer (some ⟨q,u*10,none⟩)]) w2 hT;have A3:=hid (Af A2 (Bf w2 (.cells #[.pointer none] 193)));clear hT h3;have e9:=((VV.out.below A3).e 6 (by omega) (by omega)).1;have sz:=(VV.out.below A3).hB;go_wp2_with fail
    refine(Bv 259 (.pointer (some (E 6))) _).mono ?_;rintro e w9 ⟨rfl,rfl⟩;go_wp2;go_ret;have b3:=Af A3 (Bf _ (.cells #[.int .i64 4,.iface 259 (.pointer (some (E 6)))] 66));exact⟨_,rfl,b3,4,Cl _ E sz 4 (by decide) 6 (by decide) (by decide) (by decide) (by first|rfl|simp),MP⟩
   have ty:Ew (Aa lo u).kind=193:=(by rw[h3];rfl);rw[ty];have H3:=hid h3;clear ty h3;have n7:Na #[.pointer (some ⟨q,u*10,none⟩)]:=⟨⟩;have a0:=UN 184 (.agg n7) w2;have n5:Nw (w2.alloc (.cells n7 193)):=⟨⟩;have b3:Below w2 w2 n5:=Bf w2 _;have A3:=hid (Af A2 b3);have d0:(n5:World).cell? ⟨w2,0,none⟩=some (.pointer (some ⟨q,u*10,none⟩)):=(by go_simp);have B3:=hid (Af B2 b3);clear b3;have n6:Na X:=⟨⟩;have BS:Hid (∀W,Below (n5:World).heap.size n5 W->Ag W p (.cells s 32)/\Ag W r (.cells n6 39)):=hid (fun W hW=>⟨SP.out.below (Af B3 hW),TR.out.below (Af B3 hW)⟩);have BY:Hid (∀W,Below (n5:World).heap.size n5 W->Ag W r (.cells n6 39)/\W.cell? ⟨w2,0,none⟩=some (.pointer (some ⟨q,u*10,none⟩))):=hid (fun W hW=>⟨(BS W hW).2,(hW.cell (p:=⟨w2,0,none⟩) (by simp)).trans d0⟩);go_upto_region 5 with fail
   clear a0 d0;have EL:Hid (∀args w,(callFunc 147 args).run prog w= .ok (.enter 147 args) w):=hid (enters_of func147 (by kernel_rfl) rfl);have EC:Hid (∀args w,(callFunc 13 args).run prog w= .ok (.enter 13 args) w):=hid (enters_of func13 (by kernel_rfl) rfl);have D0:=hid (Below.refl (n5:World).heap.size n5).drew;have PL:Hid (Calls prog 147 #[.agg n7] (n5:World).drew fun e w'=>∃v,e= .returned v/\(v= .agg #[.int .i64 (Aa lo u).b1,.slice (Aa lo u).c1.a (Aa lo u).c1.n (Aa lo u).c1.k]/\Below (n5:World).drew.heap.size (n5:World).drew w')):=hid (by
    have V:=VV.out.below (Af A3 D0);obtain⟨CO,ql⟩:=V.h.st.jF ul (Cm V.ok);rw[<-Az ul]at CO;exact(Lc q (u*10) (Aa lo u).b1 (Aa lo u).c1 _ ql CO.c3 CO.c4).mono fun _ _ h=>⟨_,h.1,rfl,h.2⟩)
   refine Am 7 (fun W=>Below (n5:World).heap.size n5 W) (by kernel_rfl) ?_;refine tr 0 31 (.agg n6) D0 ?_ (hy:=fun W h=>by obtain⟨y0,y1,y2,y3,y4,y5,y6⟩:=(BY W h).1.seven;go_simp);refine tr 1 32 (.pointer (w2)) D0 ?_;refine tr 2 33 (.agg n7) D0 ?_ (hy:=fun W h=>by have y:=(BY W h).2;go_simp);refine Ac (i:=3) (by kernel_rfl) rfl ?_;intro K hK;refine AE (by rfl) 147 _ _ (by rfl) EL _ (by rfl) (some 34) (by rfl) _ PL ?_;rintro v w3 ⟨rfl,b3⟩;have V2:=hid (Af D0 b3);refine hK _ _ (fun _=>V2) ?_;clear hK K b3;simp only[ap,List.set];have PS:=hid (Ej (VV.out.changes u ul _ (Af A3 V2)));refine Ac (i:=4) (by kernel_rfl) rfl ?_;intro K hK;refine AL (by rfl) 13 _ _ _ (by rfl) EC _ _ (by rfl) (by rfl) (some 35) (by rfl) _ PS ?_;rintro v w4 ⟨rfl,b4⟩;have V3:=hid (Af V2 b4);refine hK _ _ (fun _=>V3) ?_;clear hK K b4 PS;simp only[ap,List.set];refine tr 5 36 (.bool (!Ap X (Aa lo u).b1 (Aa lo u).c1)) V3 ?_;refine tr 6 30 (.bool (!Ap X (Aa lo u).b1 (Aa lo u).c1)) V3 ?_;refine Aj (by kernel_rfl) ?_ _;have A4:=hid (Af A3 V3);cases hc:Ap X (Aa lo u).b1 (Aa lo u).c1 with
   |false=>
    have MP:Hid (My X s lo 4):=hid (Lv (by rw[Fs HF.out,hc];simp));clear hc;have e9:=((VV.out.below A4).e 8 (by omega) (by omega)).1;have sz:=(VV.out.below A4).hB;go_wp2_with fail
    refine(Bv 259 (.pointer (some (E 8))) _).mono ?_;rintro e w9 ⟨rfl,rfl⟩;go_wp2;go_ret;have b3:=Af A4 (Bf _ (.cells #[.int .i64 4,.iface 259 (.pointer (some (E 8)))] 66));exact⟨_,rfl,b3,4,Cl _ E sz 4 (by decide) 8 (by decide) (by decide) (by decide) (by first|rfl|simp),MP⟩
   |true=>
    have HCh:=hid hc;clear hc;obtain⟨x0,x1,x2,x3,x4,x5,x6,x7,x8,x9⟩:=(BS _ V3).1.jE;obtain⟨y0,y1,y2,y3,y4,y5,y6⟩:=(BS _ V3).2.seven;have V4:=VV.out.below A4.out;have sa:=V4.hs _ (Below.refl _ _);have sf:=GB V4.so;have F1:=hid (IB (V4.xat).1 (V4.xat).2.2 sa.1 V4.thr.l1 V4.thr.own sf.l1);clear V4 sa;go_wp2_with fail
    refine F1.out.mono ?_;rintro e w5 ⟨rfl,b5⟩;have A5:=hid (Af A4 b5);have V5:=hid (Af V3 b5);clear b5 F1 x0 x1 x2 x3 x4 x5 x6 x7 x8 x9 y0 y1 y2 y3 y4 y5 y6;cases h1:CY X.b1 X.c1 X.own s.b1 s.c1 with
    |false=>
     have MP:Hid (My X s lo 4):=hid (Lv (by rw[Fs HF.out,h1];simp));clear h1;have e9:=((VV.out.below A5).e 9 (by omega) (by omega)).1;have sz:=(VV.out.below A5).hB;go_wp2_with fail
     refine(Bv 259 (.pointer (some (E 9))) _).mono ?_;rintro e w9 ⟨rfl,rfl⟩;go_wp2;go_ret;have b3:=Af A5 (Bf _ (.cells #[.int .i64 4,.iface 259 (.pointer (some (E 9)))] 66));exact⟨_,rfl,b3,4,Cl _ E sz 4 (by decide) 9 (by decide) (by decide) (by decide) (by first|rfl|simp),MP⟩
    |true=>
     have HF1:=hid h1;clear h1;obtain⟨x0,x1,x2,x3,x4,x5,x6,x7,x8,x9⟩:=(BS _ V5).1.jE;obtain⟨y0,y1,y2,y3,y4,y5,y6⟩:=(BS _ V5).2.seven;have V4:=VV.out.below A5.out;have sa:=V4.hs _ (Below.refl _ _);have F1:=hid (IB sa.1 (V4.xat).2.2 (V4.xat).2.1 sf.l1 V4.thr.own V4.thr.l2);clear V4 sa;go_wp2_with fail
     refine F1.out.mono ?_;rintro e w6 ⟨rfl,b6⟩;have A6:=hid (Af A5 b6);have V6:=hid (Af V5 b6);clear b6 F1 x0 x1 x2 x3 x4 x5 x6 x7 x8 x9 y0 y1 y2 y3 y4 y5 y6;cases h2:CY s.b1 s.c1 X.own X.b2 X.c2 with
     |false=>
      have MP:Hid (My X s lo 4):=hid (Lv (by rw[Fs HF.out,h2];simp));clear h2;have e9:=((VV.out.below A6).e 9 (by omega) (by omega)).1;have sz:=(VV.out.below A6).hB;go_wp2_with fail
      refine(Bv 259 (.pointer (some (E 9))) _).mono ?_;rintro e w9 ⟨rfl,rfl⟩;go_wp2;go_ret;have b3:=Af A6 (Bf _ (.cells #[.int .i64 4,.iface 259 (.pointer (some (E 9)))] 66));exact⟨_,rfl,b3,4,Cl _ E sz 4 (by decide) 9 (by decide) (by decide) (by decide) (by first|rfl|simp),MP⟩
     |true=>
      have HF2:=hid h2;clear h2;obtain⟨x0,x1,x2,x3,x4,x5,x6,x7,x8,x9⟩:=(BS _ V6).1.jE;obtain⟨y0,y1,y2,y3,y4,y5,y6⟩:=(BS _ V6).2.seven;by_cases hz:s.cat=0
      ·have z1:(s.cat != 0)=false:=(by simp[hz]);have MB:Hid (FU X s lo=true):=hid (by rw[Fs HF.out,H3.out,HCh.out,HF1.out,HF2.out,hz];simp);by_cases hm:X.made=30
       ·rw[hm]at y6;have MP:Hid (My X s lo 5):=hid (.inr (.inl ⟨rfl,MB,hm⟩));clear hm;have e9:=((VV.out.below A6).e 4 (by omega) (by omega)).1;have sz:=(VV.out.below A6).hB;go_wp2_with fail
        refine(CN 5 259 (.pointer (some (E 4))) _).mono ?_;rintro e w9 ⟨rfl,rfl⟩;go_wp2;go_ret;have b3:=Af A6 (Bf _ (.cells #[.int .i64 5,.iface 259 (.pointer (some (E 4)))] 66));exact⟨_,rfl,b3,5,Cl _ E sz 5 (by decide) 4 (by decide) (by decide) (by decide) (by first|rfl|simp),MP⟩
       ·have m1:(X.made==30)=false:=(by simp[hm]);have MP:Hid (My X s lo 0):=hid (.inr (.inr ⟨rfl,MB,hm⟩));go_wp2;go_ret;exact⟨_,rfl,A6,0,.inl ⟨rfl,rfl⟩,MP⟩
      ·have z1:(s.cat != 0)=true:=(by simp[hz]);have z2:(s.cat==0)=false:=(by simp[hz]);have zp:0<s.cat:=(by have:=HC.out;omega);have ZP:=hid zp;have V4:=VV.out.below A6.out;have CT:=hid (Iz X.own.a X.own.n X.own.k X.own.h s.cat w6 V4.xat.2.2.1 V4.xat.2.2.2);clear V4 zp;go_wp2_with fail
       refine CT.out.mono ?_;rintro e w7 ⟨rfl,rfl⟩;clear CT;cases h5:hasB X.own.n X.own.h s.cat with
       |false=>
        have MP:Hid (My X s lo 4):=hid (Lv (by rw[Fs HF.out,h5];simp[ZP.out]));clear h5 x0 x1 x2 x3 x4 x5 x6 x7 x8 x9 y0 y1 y2 y3 y4 y5 y6;have e9:=((VV.out.below A6).e 10 (by omega) (by omega)).1;have sz:=(VV.out.below A6).hB;go_wp2_with fail
        refine(Bv 259 (.pointer (some (E 10))) _).mono ?_;rintro e w9 ⟨rfl,rfl⟩;go_wp2;go_ret;have b3:=Af A6 (Bf _ (.cells #[.int .i64 4,.iface 259 (.pointer (some (E 10)))] 66));exact⟨_,rfl,b3,4,Cl _ E sz 4 (by decide) 10 (by decide) (by decide) (by decide) (by first|rfl|simp),MP⟩
       |true=>
        have MB:Hid (FU X s lo=true):=hid (by rw[Fs HF.out,H3.out,HCh.out,HF1.out,HF2.out,h5];simp);clear h5;by_cases hm:X.made=30
        ·rw[hm]at y6;have MP:Hid (My X s lo 5):=hid (.inr (.inl ⟨rfl,MB,hm⟩));clear hm;have e9:=((VV.out.below A6).e 4 (by omega) (by omega)).1;have sz:=(VV.out.below A6).hB;go_wp2_with fail
         refine(CN 5 259 (.pointer (some (E 4))) _).mono ?_;rintro e w9 ⟨rfl,rfl⟩;go_wp2;go_ret;have b3:=Af A6 (Bf _ (.cells #[.int .i64 5,.iface 259 (.pointer (some (E 4)))] 66));exact⟨_,rfl,b3,5,Cl _ E sz 5 (by decide) 4 (by decide) (by decide) (by decide) (by first|rfl|simp),MP⟩
        ·have m1:(X.made==30)=false:=(by simp[hm]);have MP:Hid (My X s lo 0):=hid (.inr (.inr ⟨rfl,MB,hm⟩));go_wp2;go_ret;exact⟨_,rfl,A6,0,.inl ⟨rfl,rfl⟩,MP⟩
end
theorem BJ.subO{w w':World}{B q co co':Nat}{vt:Value}{lt:List Ae}{l l':List Ab}(h:BJ w B vt (.slice q l.length co) lt l)(ho:AO w' B (.slice q l'.length co') l')(hg:w.grownBy w' (some q))(hp:∀x∈l',x∈l):BJ w' B vt (.slice q l'.length co') lt l'/\Da w w':=by
 have hq:∃cur,w.heap[q]? =some (.cells cur 44 (0,0)):=by
  rcases h.o.2 with⟨hv,_⟩|⟨g,cap,cur,hv,_,hgg,_⟩
  ·cases hv
  ·cases hv;exact⟨cur,hgg⟩
 obtain⟨cq,hq⟩:=hq;have kk:Da w w':=⟨hg.size,fun k cs t hk _ h1=>hg.block k (Array.getElem?_eq_some_iff.1 hk).1 (fun e=>by
  cases e;rw[hq]at hk;simp only[Option.some.injEq,Obj.cells.injEq,and_true]at hk;exact h1 hk.2.symm)⟩
 refine⟨⟨?_,ho,fun y hy=>(h.tn y hy).keeps kk.l,fun y hy=>(h.on y (hp y hy)).keeps kk.l,h.tc,fun y hy=>h.oc y (hp y hy)⟩,kk⟩;refine⟨h.t.1,?_⟩;rcases h.t.2 with hn|⟨g,cap,cur,hv,hbg,hgg,rest⟩
 ·exact .inl hn
 ·refine .inr ⟨g,cap,cur,hv,hbg,?_,rest⟩;refine(hg.block g (Array.getElem?_eq_some_iff.1 hgg).1 (fun e=>?_)).trans hgg;cases e;rw[hq]at hgg;simp at hgg
theorem BJ.setW{w:World}{B P i:Nat}{vt vo:Value}{lt:List Ae}{lo:List Ab}{cs:Array Value}(h:BJ w B vt vo lt lo)(hb:Ag w P (.cells cs 100))(u:Value):BJ (w.setCell ⟨P,i,none⟩ u) B vt vo lt lo:=by
 have k:=Au (i:=i) hb (by decide) u;exact⟨h.t.set hb (by decide) u,h.o.set hb (by decide) u,fun x hx=>(h.tn x hx).keeps k,fun x hx=>(h.on x hx).keeps k,h.tc,h.oc⟩
theorem Ng{L' L:List (List Nat)}(h:L'.Sublist L):L'.flatten.Sublist L.flatten:=by
 induction h with
 |slnil=>exact List.Sublist.refl _
 |cons a _ ih=>exact ih.trans (List.sublist_append_right _ _)
 |cons_cons a _ ih=>exact(List.Sublist.refl a).append ih
theorem Apart.subO{lt:List Ae}{l l':List Ab}(h:Apart lt l)(hs:l'.Sublist l):Apart lt l':=
 ⟨h.c.sublist ((List.Sublist.refl _).append (Ng (hs.map _))),h.i.sublist ((List.Sublist.refl _).append (Ng (hs.map _))),h.s.sublist (Ng (hs.map _))⟩
section
variable {E:Nat->Addr}{w:World}{B P:Nat}{s:Al}{g ca q co:Nat}{lt:List Ae}{lo:List Ab}{t c C:Nat}{nb:Nat->Nat}{kv:Nat->Value}{K:Nat->List Int}{X:Ae}
theorem Env.nodes(v:Env E w B P s g ca q co lt lo t c C nb kv K X):Eb w C c lo.length (fun i=>(Aa lo i).id) q 0 nb kv (Bz (fun i=>(Aa lo i).id) (fun i=>(Aa lo i).up) lo.length):=
 ⟨v.n.map,v.n.blk,v.n.inj,fun i hi=>by have h:=v.n.own i hi;rw[v.kid i hi]at h;exact h,v.n.apart,v.n.low,v.n.lowc⟩
theorem Sc{lt:List Ae}{lo:List Ab}(ok:okL lt lo=true){u:Nat}(hu:u<lo.length):(Aa lo u).id=1↔u=0:=by
 have r:=(FF ok).2.1;constructor
 ·intro h;by_cases e:u=0
  ·exact e
  ·have h':(Aa lo 0).id<(Aa lo u).id:=(Bt.1 ok).rise 0 u (by omega) hu;omega
 ·intro e;subst e;exact r
theorem WP(v:Env E w B P s g ca q co lt lo t c C nb kv K X)(hk:s.kind=11):
 Calls prog 89 #[.pointer P] w fun e w'=>∃r,e= .returned r/\JW E B P s lt lo t X (.map (some c)) w w' ⟨#[]⟩ r:=by
 have VV:=hid v;have HK:=hid hk;obtain⟨⟨s0,s1,s2,s3,s4,s5,s6,s7,s8,s9⟩,_,_,c12,c13⟩:=Ag.jZ (show Ag w.drew P _ from v.h.wk);obtain⟨⟨k0,k1,k2,k3,k4,k5,k6,k7,k8,k9⟩,_,_,v12,v13⟩:=v.h.wk.jZ;have LK:=(v.n.below (Below.refl _ w).drew).map.look (bS (GB v.so));have LK2:=v.n.map.look (bS (GB v.so));have BX:Hid (∀W,Below w w W->Ag W P (.cells (Ie s g lt.length ca q lo.length co t (.map (some c))) 100)/\Fi W g (t*7) X/\(∀i,i<lo.length->W.cell? ⟨nb i,0,none⟩=some (.pointer (some ⟨q,i*10,none⟩))/\W.cell? ⟨nb i,1,none⟩=some (kv i))/\(∀i,i<lo.length->C9 W q (i*10) (Aa lo i))):=hid (fun W hW=>by
  have V:=VV.out.below hW;have C7:=(V.h.st.jJ V.ht).1;rw[<-V.hX]at C7;refine⟨V.h.wk,C7,fun i hi=>?_,fun i hi=>?_⟩
  ·have b:=V.n.blk i hi;rw[Nat.zero_add]at b;exact b.two
  ·have C0:=(V.h.st.jF hi (Cm V.ok)).1;rw[<-Az hi]at C0;exact C0)
 clear v hk;cases hf:Gl lo s.id with
 |none=>
  rw[show Bg (fun i=>(Aa lo i).id) lo.length s.id=none from hf]at LK LK2;simp only[Option.map_none]at LK LK2;have AN:Hid (FA X s lt lo t 4 ⟨#[]⟩ lt lo):=hid (.drop HK rfl rfl (.inl ⟨rfl,by unfold Im;rw[hf],rfl⟩));clear hf;go_enter func89,ntmps89
  go_upto_region 1 with fail
  go_cut[3] from 5 (fun a wc=>a= .pointer none/\wc=w.drew)
  case first=>
   go_region_law fail
   all_goals(
    go_wp2_with fail
    go_meet;case rel=>exact⟨rfl,rfl⟩)
  case rest=>
   obtain⟨rfl,rfl⟩:=hcut;clear LK LK2 s0 s1 s2 s3 s4 s5 s6 s7 s8 s9 c12 c13 k0 k1 k2 k3 k4 k5 k6 k7 k8 k9 v12 v13;have A1:=hid (Below.refl w w).drew;have e9:=((VV.out.below A1).e 6 (by omega) (by omega)).1;have sz:=(VV.out.below A1).hB;go_wp2_with fail
   refine(Bv 259 (.pointer (some (E 6))) _).mono ?_;rintro e w9 ⟨rfl,rfl⟩;go_wp2;go_ret;have b3:=Af A1 (Bf _ (.cells #[.int .i64 4,.iface 259 (.pointer (some (E 6)))] 66));exact⟨_,rfl,.no (.of (VV.out.below b3).h.wk) (b3.mono VV.out.hB) (Cl _ E sz 4 (by decide) 6 (by decide) (by decide) (by decide) (by first|rfl|simp)) (by decide) (AN)⟩
 |some u=>
  rw[show Bg (fun i=>(Aa lo i).id) lo.length s.id=some u from hf]at LK LK2;simp only[Option.map_some]at LK LK2;have HF:=hid hf;have ul:u<lo.length:=(Av hf).1;clear hf;go_enter func89,ntmps89
  go_upto_region 1 with fail
  go_cut[3] from 5 (fun a wc=>a= .pointer (nb u)/\wc=w.drew)
  case first=>
   go_region_law fail
   all_goals(
    go_wp2_with fail
    go_meet;case rel=>exact⟨rfl,rfl⟩)
  case rest=>
  obtain⟨rfl,rfl⟩:=hcut;clear LK LK2 s0 s1 s2 s3 s4 s5 s6 s7 s8 s9 c12 c13 k0 k1 k2 k3 k4 k5 k6 k7 k8 k9 v12 v13;have A1:=hid (Below.refl w w).drew;have n0:=((BX _ A1).2.2.1 u ul).1;have o0:w.drew.cell? ⟨q,u*10,none⟩=some (.int .i64 (Aa lo u).id):=((BX _ A1).2.2.2 u ul).c0;by_cases h1:(Aa lo u).id=1
  ·have AN:Hid (FA X s lt lo t 4 ⟨#[]⟩ lt lo):=hid (.drop HK rfl rfl (.inl ⟨rfl,by unfold Im;rw[HF.out,(Sc VV.out.ok ul).1 h1];rfl,rfl⟩));rw[h1]at o0;clear h1;have e9:=((VV.out.below A1).e 7 (by omega) (by omega)).1;have sz:=(VV.out.below A1).hB;go_wp2_with fail
   refine(Bv 259 (.pointer (some (E 7))) _).mono ?_;rintro e w9 ⟨rfl,rfl⟩;go_wp2;go_ret;have b3:=Af A1 (Bf _ (.cells #[.int .i64 4,.iface 259 (.pointer (some (E 7)))] 66));exact⟨_,rfl,.no (.of (VV.out.below b3).h.wk) (b3.mono VV.out.hB) (Cl _ E sz 4 (by decide) 7 (by decide) (by decide) (by decide) (by first|rfl|simp)) (by decide) (AN)⟩
  ·have z1:((Aa lo u).id==1)=false:=(by simpa using h1);have u0:u≠0:=fun e=>h1 ((Sc VV.out.ok ul).2 e);obtain⟨p,hp⟩:∃p,Gl lo (Aa lo u).up=some p:=Lb (k:=Bo none 0 none 0 lt lo) VV.out.ok ul u0;have HP:=hid hp;have pl:p<lo.length:=(Av hp).1;have UW:(Lit.int .i64 (Aa lo u).up).wf=true:=by
    rw[<-(Av hp).2];exact NY (Hv VV.out.ok _ (FR pl))
   have LKP:Hid (∀W,Below w w W->_):=hid (fun W hW=>by
    have L:=(VV.out.below hW).n.map.look UW;rw[show Bg (fun i=>(Aa lo i).id) lo.length (Aa lo u).up=some p from hp]at L;exact L)
   clear h1 hp UW;go_upto_region 6 with fail
   clear n0 o0;have D0:=hid (A1.out.drew);have EC:Hid (∀args w,(callFunc 13 args).run prog w= .ok (.enter 13 args) w):=hid (enters_of func13 (by kernel_rfl) rfl);have EB:Hid (∀args w,(callFunc 113 args).run prog w= .ok (.enter 113 args) w):=hid (enters_of func113 (by kernel_rfl) rfl);have PS:=hid (Ej (VV.out.changes p pl _ D0));refine Am 27 (fun W=>Below w w W) (by kernel_rfl) ?_;have n1:Nv (.pointer P):=⟨⟩;refine tr 0 32 n1 D0 ?_;refine tr 1 33 n1 D0 ?_;refine tr 2 34 (.pointer (some ⟨P,12,none⟩)) D0 ?_;have n9:Nv (.pointer (some ⟨g,t*7,none⟩)):=⟨⟩;refine tr 3 35 n9 D0 ?_ (hy:=fun W h=>by obtain⟨⟨k0,k1,k2,k3,k4,k5,k6,k7,k8,k9⟩,k10,k11,k12,k13⟩:=(BX W h).1.jZ;go_simp);refine tr 4 36 n9 D0 ?_;refine tr 5 37 (.agg X) D0 ?_ (hy:=fun W h=>by have C:=(BX W h).2.1;have y0:=C.c0;have y1:=C.c1;have y2:W.cell? ⟨g,t*7+2,none⟩=some (.slice X.c1.a X.c1.n X.c1.k):=C.c2;have y3:=C.c3;have y4:W.cell? ⟨g,t*7+4,none⟩=some (.slice X.c2.a X.c2.n X.c2.k):=C.c4;have y5:W.cell? ⟨g,t*7+5,none⟩=some (.slice X.own.a X.own.n X.own.k):=C.c5;have y6:=C.c6;go_simp);refine tr 6 38 n1 D0 ?_;refine tr 7 39 n1 D0 ?_;refine tr 8 40 (.pointer (some ⟨P,13,none⟩)) D0 ?_;refine tr 9 41 (.map (some c)) D0 ?_ (hy:=fun W h=>by obtain⟨⟨k0,k1,k2,k3,k4,k5,k6,k7,k8,k9⟩,k10,k11,k12,k13⟩:=(BX W h).1.jZ;go_simp);have n2:Nv (.pointer (nb u)):=⟨⟩;refine tr 10 42 n2 D0 ?_;refine tr 11 43 n2 D0 ?_;refine tr 12 44 n2 D0 ?_;have n6:Nv (.pointer (some ⟨q,u*10,none⟩)):=⟨⟩;refine tr 13 45 n6 D0 ?_ (hy:=fun W h=>by have y:=((BX W h).2.2.1 u ul).1;go_simp);refine tr 14 46 n6 D0 ?_;refine tr 15 47 (.pointer (some ⟨q,u*10+2,none⟩)) D0 ?_;refine tr 16 48 (.int .i64 (Aa lo u).up) D0 ?_ (hy:=fun W h=>by have y:=((BX W h).2.2.2 u ul).c2;go_simp);have n4:Nv (.pointer (nb p)):=⟨⟩;refine tr 17 49 n4 D0 ?_ (hy:=fun W h=>by have y:=LKP.out W h;go_simp);refine tr 18 50 n4 D0 ?_;refine tr 19 51 n4 D0 ?_;have n8:Nv (.pointer (some ⟨q,p*10,none⟩)):=⟨⟩;refine tr 20 52 n8 D0 ?_ (hy:=fun W h=>by have y:=((BX W h).2.2.1 p pl).1;go_simp);refine tr 21 53 n8 D0 ?_;refine tr 22 54 (.pointer (some ⟨q,p*10+3,none⟩)) D0 ?_;refine tr 23 55 (.agg #[.int .i64 (Aa lo p).b1,.slice (Aa lo p).c1.a (Aa lo p).c1.n (Aa lo p).c1.k]) D0 ?_ (hy:=fun W h=>by have C:=(BX W h).2.2.2 p pl;have y1:W.cell? ⟨q,p*10+3,none⟩=some (.int .i64 (Aa lo p).b1):=C.c3;have y2:W.cell? ⟨q,p*10+3+1,none⟩=some (.slice (Aa lo p).c1.a (Aa lo p).c1.n (Aa lo p).c1.k):=C.c4;go_simp);refine Ac (i:=24) (by kernel_rfl) rfl ?_;intro K hK;refine AL (by rfl) 13 _ _ _ (by rfl) EC _ _ (by rfl) (by rfl) (some 56) (by rfl) _ PS ?_;rintro v w4 ⟨rfl,b4⟩;have V1:=hid (Af D0 b4);refine hK _ _ (fun _=>V1) ?_;clear hK K b4 PS;simp only[ap,List.set];refine tr 25 57 (.bool (!Ap X (Aa lo p).b1 (Aa lo p).c1)) V1 ?_;refine tr 26 31 (.bool (!Ap X (Aa lo p).b1 (Aa lo p).c1)) V1 ?_;refine Aj (by kernel_rfl) ?_ _;cases hc:Ap X (Aa lo p).b1 (Aa lo p).c1 with
   |false=>
    have AN:Hid (FA X s lt lo t 4 ⟨#[]⟩ lt lo):=hid (.drop HK rfl rfl (.inl ⟨rfl,by unfold Im;rw[HF.out];simp only;rw[HP.out];simp only;rw[hc];simp,rfl⟩));clear hc;have e9:=((VV.out.below V1).e 8 (by omega) (by omega)).1;have sz:=(VV.out.below V1).hB;go_wp2_with fail
    refine(Bv 259 (.pointer (some (E 8))) _).mono ?_;rintro e w9 ⟨rfl,rfl⟩;go_wp2;go_ret;have b3:=Af V1 (Bf _ (.cells #[.int .i64 4,.iface 259 (.pointer (some (E 8)))] 66));exact⟨_,rfl,.no (.of (VV.out.below b3).h.wk) (b3.mono VV.out.hB) (Cl _ E sz 4 (by decide) 8 (by decide) (by decide) (by decide) (by first|rfl|simp)) (by decide) (AN)⟩
   |true=>
    have DB:Hid (Im X lo s.id=true):=hid (by unfold Im;rw[HF.out];simp only;rw[HP.out];simp only;rw[hc];simp;omega);clear hc;go_upto_region 8 with fail
    have D2:=hid V1.out.drew;have PB:Hid (∀W,Below w w W->Calls prog 113 #[.map (some c),.int .i64 (Aa lo u).id] W fun e w'=>∃v,e= .returned v/\∃(a:Option Addr) (k:Nat),v= .slice a (B9 lo u).length k/\Ay w' W (.slice a (B9 lo u).length k) (B9 lo u)/\Below W W w'):=hid (fun W hW=>by
     have V:=VV.out.below hW;have ok:=V.ok;have ho:Cn lo.length (Aa lo)=true:=(Bm (k:=Bo none 0 none 0 lt lo) ok).2.1;have on:=Ek ok;refine(P8 W C c lo.length (fun i=>(Aa lo i).id) (fun i=>(Aa lo i).up) q 0 nb kv V.nodes (Bu ho) (fun j hj=>by have:=Fa ho j hj;have:=(Cv ho).2.2;omega) (fun i hi=>NY (Hv ok _ (FR hi))) (by omega) u ul (Jy (k:=Bo none 0 none 0 lt lo) ok ul)).mono ?_;rintro e w' ⟨v,rfl,h1,h2⟩;obtain⟨a,k,rfl⟩:=Ay.form h1;exact⟨_,rfl,a,k,rfl,h1,h2⟩)
    go_cut[4] from 60 (fun x wc=>∃(vb:Nat) (a:Option Addr) (k:Nat),x= .pointer vb/\Ag wc vb (.cells #[.slice a (B9 lo u).length k] 37)/\Ay wc w (.slice a (B9 lo u).length k) (B9 lo u)/\Below w w wc/\w.heap.size<=vb)
    case first=>
     refine Am 13 (fun W=>Below w w W) (by kernel_rfl) ?_;have n10:Nv (.pointer P):=⟨⟩;refine tr 0 60 n10 D2 ?_;refine tr 1 61 n10 D2 ?_;refine tr 2 62 (.pointer (some ⟨P,13,none⟩)) D2 ?_;refine tr 3 63 (.map (some c)) D2 ?_ (hy:=fun W h=>by obtain⟨⟨k0,k1,k2,k3,k4,k5,k6,k7,k8,k9⟩,k10,k11,k12,k13⟩:=(BX W h).1.jZ;go_simp);have n3:Nv (.pointer (nb u)):=⟨⟩;refine tr 4 64 n3 D2 ?_;refine tr 5 65 n3 D2 ?_;refine tr 6 66 n3 D2 ?_;have n7:Nv (.pointer (some ⟨q,u*10,none⟩)):=⟨⟩;refine tr 7 67 n7 D2 ?_ (hy:=fun W h=>by have y:=((BX W h).2.2.1 u ul).1;go_simp);refine tr 8 68 n7 D2 ?_;refine tr 9 69 n7 D2 ?_;refine tr 10 70 (.int .i64 (Aa lo u).id) D2 ?_ (hy:=fun W h=>by have y:=((BX W h).2.2.2 u ul).c0;go_simp);refine Cr (i:=11) (j:=12) (by kernel_rfl) rfl rfl ?_ ?_
     ·intro K hK;refine AL (by rfl) 113 _ _ _ (by rfl) EB _ _ (by rfl) (by rfl) (some 71) (by rfl) _ (PB _ D2) ?_;rintro v w5 ⟨a,k,rfl,o5,b5⟩;have V5:=hid (Af D2 b5);have O5:=hid o5;refine hK _ _ (fun _=>V5) ?_;clear hK K o5 b5;simp only[ap,List.set];refine Ac (i:=12) (by kernel_rfl) rfl ?_;intro K hK;go_simp;have V6:=hid (Af V5 (Bf w5 (.cells #[.slice none 0 0] 37)));refine hK _ _ (fun _=>V6) ?_;clear hK K;try simp only[ap,List.set]
      refine Ac (i:=13) (by kernel_rfl) rfl ?_;intro K hK;go_simp;refine hK _ _ (fun h=>absurd h (by decide)) ?_;clear hK K;try simp only[Act.put]
      refine Aj (by kernel_rfl) ?_ _;go_wp2_with fail
      go_meet;case rel=>
       have b6:=Bf w5 (.cells #[.slice a (B9 lo u).length k] 37);exact⟨w5,a,k,rfl,Ag.new w5 _,Ay.base (own_below O5 b6) D2.out.size,Af V5 b6,V5.out.size⟩
     ·intro K hK;have n5:No (.cells #[.slice none 0 0] 37):=⟨⟩;have V5:=hid (D2.out.alloc D2.out.size n5);have ZV:Hid (Ag (w4.alloc n5).drew w4 n5):=hid (Ag.new w4 _);go_simp;refine hK _ _ (fun _=>V5) ?_;clear hK K;try simp only[ap,List.set]
      refine Ac (i:=11) (by kernel_rfl) rfl ?_;intro K hK;refine AL (by rfl) 113 _ _ _ (by rfl) EB _ _ (by rfl) (by rfl) (some 71) (by rfl) _ (PB _ V5) ?_;rintro v w6 ⟨a,k,rfl,o6,b6⟩;have V6:=hid (Af V5 b6);have O6:=hid o6;have Z6:=hid (ZV.out.below b6);refine hK _ _ (fun _=>V6) ?_;clear hK K o6 b6;simp only[ap,List.set];have z0:w6.cell? ⟨w4,0,none⟩=some (.slice none 0 0):=(by have h:=Z6.out;unfold Ag at h;simp[World.cell?,h]);have zf:=Z6.out.jC;refine Ac (i:=13) (by kernel_rfl) rfl ?_;intro K hK;go_simp;refine hK _ _ (fun h=>absurd h (by decide)) ?_;clear hK K;try simp only[Act.put]
      refine Aj (by kernel_rfl) ?_ _;go_wp2_with fail
      go_meet;case rel=>
       have gs:=As (w:=w6) (w1:=w6) (q:=w4.heap.size) ⟨rfl,rfl,rfl,Nat.le_refl _,fun _ _ _=>rfl⟩ 0 (.slice a (B9 lo u).length k);exact⟨w4,a,k,rfl,Z6.out.jB (i:=0) _,Ay.base (World.ownsRow.kept O6 gs (.inr (fun e=>absurd (World.ownsRow.lt O6 w4 e).1 (by simp)))) V5.out.size,V6.out.setCell (p:=⟨w4,0,none⟩) V1.out.size _,V1.out.size⟩
    case rest=>
     obtain⟨vb,a,k,rfl,BV,OG,hb,hvb⟩:=hcut;generalize wc=w6 at *;have BV':=hid BV;have OG':=hid OG;have A6:=hid hb;clear BV OG hb;have V6:=VV.out.below A6.out;have ql:q<w.heap.size:=(VV.out.h.st.jF ul (Cm VV.out.ok)).2;have vc:w6.cell? ⟨vb,0,none⟩=some (.slice a (B9 lo u).length k):=(by have h:=BV'.out;unfold Ag at h;simp[World.cell?,h]);have on:=Ek VV.out.ok;have ogl:(B9 lo u).length<=maxLen:=Nat.le_trans (CZ OG').1 (CZ OG').2;have DF:=hid (Si B q co vb lo ⟨a,(B9 lo u).length,k,AV (B9 lo u)⟩ w6 V6.h.st.o (by omega) vc BV'.out.lt (by omega) (fun W hW=>(Ay.new (World.ownsRow.kept OG' hW (.inr (fun e=>by have h:=(World.ownsRow.lt OG' q e).1;omega))) ogl).1));have H6:=hid V6.h;obtain⟨⟨k0,k1,k2,k3,k4,k5,k6,k7,k8,k9⟩,k10,k11,k12,k13⟩:=V6.h.wk.jZ;clear V6 vc;go_wp2_with fail
     refine DF.out.mono ?_;rintro e w7 ⟨rfl,o7,g7⟩;obtain⟨K7,kk⟩:=H6.out.st.subO o7 g7 (fun x hx=>(List.mem_filter.1 hx).1);have BP:=H6.out.wk.grown g7 (fun e=>H6.out.setQ (Option.some.inj e));obtain⟨⟨j0,j1,j2,j3,j4,j5,j6,j7,j8,j9⟩,j10,j11,j12,j13⟩:=BP.jZ;have pf:=BP.jC;have AP7:=hid (H6.out.ap.subO (l':=Gu ⟨a,(B9 lo u).length,k,AV (B9 lo u)⟩ lo) List.filter_sublist);have KF:=hid K7;have BP':=hid BP;have hBq:B<=q:=(World.ownsRow.lt H6.out.st.o q rfl).1;have B7:Hid (Below B w w7):=hid ((A6.out.mono VV.out.hB).trans (below_grown g7 (Nat.le_trans VV.out.hB A6.out.size) (fun j e=>by have:=Option.some.inj e;omega)));have lp:=H6.out.lp;clear K7 kk BP o7 g7 k0 k1 k2 k3 k4 k5 k6 k7 k8 k9 k10 k11 k12 k13;go_wp2;go_ret;refine⟨_,rfl,.yes (B7.out.setCell (p:=⟨P,11,none⟩) lp _) ⟨(KF.out.setW BP' _).f,AP7,BP'.out.jB (i:=11) _⟩ (.drop HK rfl rfl (.inr ⟨rfl,DB,u,HF,by omega,?_⟩))⟩;unfold Eo Gu;rw[List.take_of_length_le nr]
end
def Tryz.sortFA_ren:Go.Shelf.Ren:=⟨fun|6=>125|15=>149|14=>148|28=>165|29=>166|20=>157|21=>158|22=>159|23=>160|24=>161|25=>162|26=>163|27=>164|46=>183|47=>184|48=>185|49=>186|50=>187|57=>197|n=>n,fun|22=>25|24=>44|25=>179|3=>3|39=>174|0=>0|53=>220|55=>172|4=>4|46=>213|45=>212|50=>217|5=>5|9=>9|66=>240|70=>243|76=>251|77=>252|n=>n,fun|n=>n⟩
theorem Tryz.sortFA:Go.Proofs.SlLaysF0.n6 prog Tryz.sortFA_ren:={
 mixed:=by kernel_rfl
 f6:=⟨Tryz.f125.name,by decide,func125.trans (congrArg some (by kernel_rfl))⟩
 f14:=⟨Tryz.f148.name,by decide,func148.trans (congrArg some (by kernel_rfl))⟩
 f15:=func149.trans (congrArg some (by kernel_rfl))
 f20:=⟨Tryz.f157.name,by decide,func157.trans (congrArg some (by kernel_rfl))⟩
 f21:=⟨Tryz.f158.name,by decide,func158.trans (congrArg some (by kernel_rfl))⟩
 f22:=⟨Tryz.f159.name,by decide,func159.trans (congrArg some (by kernel_rfl))⟩
 f23:=⟨Tryz.f160.name,by decide,func160.trans (congrArg some (by kernel_rfl))⟩
 f24:=⟨Tryz.f161.name,by decide,func161.trans (congrArg some (by kernel_rfl))⟩
 f25:=⟨Tryz.f162.name,by decide,func162.trans (congrArg some (by kernel_rfl))⟩
 f26:=⟨Tryz.f163.name,by decide,func163.trans (congrArg some (by kernel_rfl))⟩
 f27:=⟨Tryz.f164.name,by decide,func164.trans (congrArg some (by kernel_rfl))⟩
 f28:=func165.trans (congrArg some (by kernel_rfl))
 f29:=func166.trans (congrArg some (by kernel_rfl))
 f46:=⟨Tryz.f183.name,by decide,func183.trans (congrArg some (by kernel_rfl))⟩
 f47:=func184.trans (congrArg some (by kernel_rfl))
 f48:=func185.trans (congrArg some (by kernel_rfl))
 f49:=⟨Tryz.f186.name,by decide,func186.trans (congrArg some (by kernel_rfl))⟩
 f50:=⟨Tryz.f187.name,by decide,func187.trans (congrArg some (by kernel_rfl))⟩
 f57:=⟨Tryz.f197.name,by decide,func197.trans (congrArg some (by kernel_rfl))⟩
 t0:=underlying0
 a0:=isAgg0
 z0:=sizeOf0
 v0:=zeroValue0
 t3:=underlying3
 a3:=isAgg3
 z3:=sizeOf3
 v3:=zeroValue3
 t4:=underlying4
 a4:=isAgg4
 z4:=sizeOf4
 v4:=zeroValue4
 t5:=underlying5
 a5:=isAgg5
 z5:=sizeOf5
 v5:=zeroValue5
 t9:=underlying9
 a9:=isAgg9
 z9:=sizeOf9
 v9:=zeroValue9
 t22:=underlying25
 a22:=isAgg25
 z22:=sizeOf25
 v22:=zeroValue25
 t25:=underlying179
 a25:=isAgg179
 z25:=sizeOf179
 v25:=zeroValue179
 t39:=underlying174
 a39:=isAgg174
 z39:=sizeOf174
 v39:=zeroValue174
 t45:=underlying212
 a45:=isAgg212
 z45:=sizeOf212
 v45:=zeroValue212
 t46:=underlying213
 a46:=isAgg213
 z46:=sizeOf213
 v46:=zeroValue213
 t50:=underlying217
 a50:=isAgg217
 z50:=sizeOf217
 v50:=zeroValue217
 t53:=underlying220
 a53:=isAgg220
 z53:=sizeOf220
 v53:=zeroValue220
 t55:=underlying172
 a55:=isAgg172
 z55:=sizeOf172
 v55:=zeroValue172
 t66:=underlying240
 a66:=isAgg240
 z66:=sizeOf240
 v66:=zeroValue240
 t70:=underlying243
 a70:=isAgg243
 z70:=sizeOf243
 v70:=zeroValue243
 t76:=underlying251
 a76:=isAgg251
 z76:=sizeOf251
 v76:=zeroValue251
 t77:=underlying252
 a77:=isAgg252
 z77:=sizeOf252
 v77:=zeroValue252}
open Go.Sort
instance objInh:Inhabited Ab:=⟨Ab.z⟩
def S9(x y:Int):Int:=if x<y then-1 else if y<x then 1 else 0
theorem JG(x:Int)(w:World):Calls prog 150 #[.int .i64 x] w fun e w'=>e= .returned (.bool false)/\w'=w:=by
 go_enter func150,ntmps150
 go_wp2;go_ret;exact⟨by simp,rfl⟩
theorem Sq(x y:Int)(w:World):Calls prog 127 #[.int .i64 x,.int .i64 y] w fun e w'=>e= .returned (.int .i64 (S9 x y))/\w'=w:=by
 unfold S9;by_cases h1:x<y
 ·rw[if_pos h1];go_enter func127,ntmps127
  go_wp2_with fail
  refine(JG x w).mono ?_;rintro e w1 ⟨rfl,rfl⟩;go_wp2_with fail
  refine(JG y _).mono ?_;rintro e w1 ⟨rfl,rfl⟩;go_wp2;go_ret;exact⟨rfl,rfl⟩
 ·rw[if_neg h1];by_cases h2:y<x
  ·rw[if_pos h2];go_enter func127,ntmps127
   go_wp2_with fail
   refine(JG x w).mono ?_;rintro e w1 ⟨rfl,rfl⟩;go_wp2_with fail
   refine(JG y _).mono ?_;rintro e w1 ⟨rfl,rfl⟩;go_wp2;go_ret;exact⟨rfl,rfl⟩
  ·rw[if_neg h2];go_enter func127,ntmps127
   go_wp2_with fail
   refine(JG x w).mono ?_;rintro e w1 ⟨rfl,rfl⟩;go_wp2_with fail
   refine(JG y _).mono ?_;rintro e w1 ⟨rfl,rfl⟩;go_wp2;go_ret;exact⟨rfl,rfl⟩
theorem Xy(w:World)(A B:Obj):(w.alloc A).alloc B=grow (w.drewN 0) #[A,B]:=by
 have e:w.heap++#[A,B]=(w.heap.push A).push B:=by
  show w.heap++(#[].push A).push B=_;rw[Array.append_push,Array.append_push,Array.append_empty]
 show _={w.drewN 0 with heap:=w.heap++#[A,B]};rw[e];rfl
theorem Xg(x y:Ab)(w:World):Calls prog 126 #[.agg x.cs.toArray,.agg y.cs.toArray] w fun e w'=>e= .returned (.int .i64 (S9 x.id y.id))/\∃q os',w'=grow (w.drewN q) os':=by
 unfold Ab.cs Ar.val AJ.val AH.val;go_enter func126,ntmps126
 go_wp2_with fail
 refine(Sq x.id y.id _).mono ?_;rintro e w1 ⟨rfl,rfl⟩;go_wp2;go_ret;refine⟨rfl,0,_,Xy _ _ _⟩
theorem Ve:∀(l:List Ab) (t:Nat),t<l.length*10->(Ax l)[t]? =some ((l[t/10]!).cs[t%10]!)
 |[],t,h=>by simp at h
 |x::r,t,h=>by
  have e:Ax (x::r)=x.cs++Ax r:=by simp[Ax]
  rw[e];by_cases h1:t<10
  ·rw[List.getElem?_append_left (by rw[Ab.jK];exact h1),Nat.div_eq_of_lt h1,Nat.mod_eq_of_lt h1];have h2:t<x.cs.length:=(by rw[Ab.jK];exact h1);simp[h2,getElem!_pos]
  ·rw[List.getElem?_append_right (by rw[Ab.jK];omega),Ab.jK,Ve r (t-10) (by simp at h;omega)];have h2:t/10=(t-10)/10+1:=(by omega);have h3:t%10=(t-10)%10:=(by omega);rw[h2,h3];simp
theorem Mc(l:List Ab):(flatK Ab.cs 10 l.toArray).toList=Ax l:=by
 refine List.ext_getElem? (fun t=>?_);by_cases h:t<l.length*10
 ·rw[Ve l t h];have hs:t<(flatK Ab.cs 10 l.toArray).size:=by simp;exact h
  rw[Array.getElem?_toList,Array.getElem?_eq_getElem hs];have:=get_flatK Ab.cs 10 l.toArray t (by simpa using h);rw[getElem!_pos _ t hs]at this;rw[this];simp
 ·rw[List.getElem?_eq_none (by simp;omega),List.getElem?_eq_none (by rw[Gv];omega)]
theorem ay:SWO (ltOf fun x y:Ab=>S9 x.id y.id):=by
 have e:∀x y:Ab,ltOf (fun x y:Ab=>S9 x.id y.id) x y=decide (x.id<y.id):=fun x y=>by
  unfold ltOf S9;dsimp only;by_cases h:x.id<y.id
  ·simp[h]
  ·by_cases h2:y.id<x.id<;>simp[h,h2]
 refine⟨fun x=>by rw[e];simp,fun x y z h1 h2=>?_,fun x y z h1 h2=>?_⟩
 ·rw[e]at *;simp at *;omega
 ·rw[e]at *;simp at *;omega
theorem YH(cur:Array Value)(F:Array Value)(h:F.size<=cur.size):(putCells id 0 F cur).toList.take F.size=F.toList:=by
 apply List.ext_getElem?;intro j;by_cases hj:j<F.size
 ·rw[List.getElem?_take_of_lt hj,Array.getElem?_toList];simp[putCells,hj,show j<cur.size by omega]
 ·rw[List.getElem?_take_eq_none (by omega),List.getElem?_eq_none (by simp;omega)]
theorem ZQ:∀(x:Ab),∀v∈x.cs,v.oneCell'=true:=fun x v hv=>LZ (l:=[x]) v (by simp[Ax];exact hv)
theorem Vs(B q co:Nat)(l:List Ab)(w:World)(h:AO w B (.slice q l.length co) l)(hn:l.length<=1048576)(h0:0<l.length):
 Calls prog 125 #[.slice q l.length co,.func (.func 126) #[] #[]] w fun e w'=>e= .returned (.tuple #[])/\∃l',l'.Perm l/\l'.Pairwise (fun a b=>¬b.id<a.id)/\AO w' B (.slice q l'.length co) l'/\w.grownBy w' (some q):=by
 have hc:=h;rcases hc.2 with⟨hv,_⟩|⟨g',cap,cur,hv,hB,hgg,h1,h2,h3,h4⟩
 ·cases hv
 cases hv;have HK:HoldsK Ab.cs 10 w q 0 l.toArray:=fun j hj=>by
  have hj':j<l.length*10:=by simpa using hj
  have hcur:j<cur.size:=by rw[h3];omega
  have e1:cur.toList[j]? =(Ax l)[j]?:=by rw[<-h4,List.getElem?_take_of_lt hj']
  rw[<-Mc,Array.getElem?_toList,Array.getElem?_toList,Array.getElem?_eq_getElem hj]at e1;refine⟨?_,by simp[World.frozen?,hgg]⟩;rw[Nat.zero_add];simp only[World.cell?,hgg];rw[getElem!_pos (flatK Ab.cs 10 l.toArray) j hj];simpa using e1
 have ql:q<w.heap.size:=(World.ownsRow.lt h q rfl).2;have S:=AnyQ.slices_SortFunc Tryz.sortFA 10 isAgg44 sizeOf44 Ab.cs Ab.jK ZQ (fun x y:Ab=>S9 x.id y.id) ay 126 #[] q 0 co l.toArray w (enters_of func126 (by kernel_rfl) rfl) (fun m os dk _ x y=>Xg x y _) HK ql (by simp;omega);have S':Calls prog 125 #[.slice q l.toArray.size co,.func (.func 126) #[] #[]] w _:=S;rw[show l.toArray.size=l.length from by simp]at S';refine S'.mono ?_;rintro e w' ⟨rfl,d',n,os,hp,hs,rfl⟩;obtain⟨hsz,_,hperm⟩:=hp;have hsz':d'.size=l.length:=by simpa using hsz
 have pm:d'.toList.Perm l:=by
  have e1:(d'.extract 0 l.length).toList=d'.toList:=by rw[<-hsz'];simp
  have e2:(l.toArray.extract 0 l.length).toList=l:=by simp
  rw[e1,e2]at hperm;exact hperm
 have ln:d'.toList.length=l.length:=by simpa using hsz'
 have hk:(sortWorldK Ab.cs 10 w q 0 n d' os).heap[q]? =some (.cells (putCells id 0 (flatK Ab.cs 10 d') cur) 44 (0,0)):=by
  unfold sortWorldK grow putRowK putRow mapBlock Sort.ahead;rw[Array.getElem?_append_left (by simpa using ql)];simp[Array.getElem?_modify,hgg,onCells]
 have fs:(flatK Ab.cs 10 d').size<=cur.size:=by rw[size_flatK,hsz',h3];exact Nat.mul_le_mul_right _ h1
 refine⟨rfl,d'.toList,pm,?_,?_,?_⟩
 ·rw[List.pairwise_iff_getElem];intro i j hi hj hij;have:=hs i j (Nat.zero_le _) hij (by simpa using(by omega:j<l.length));have hi':i<d'.size:=by omega
  have hj':j<d'.size:=by omega
  rw[getElem!_pos d' j hj',getElem!_pos d' i hi']at this;unfold ltOf S9 at this;simp only[decide_eq_false_iff_not]at this;intro hlt;have hlt':d'[j].id<d'[i].id:=by simpa using hlt
  rw[if_pos hlt']at this;omega
 ·refine⟨by rw[Gv],.inr ⟨q,co,_,rfl,hB,hk,by rw[ln];exact h1,h2,by simp[putCells,h3],?_⟩⟩;have:=YH cur (flatK Ab.cs 10 d') fs;rw[size_flatK,show d'.size=d'.toList.length from by simp]at this;rw[this];have:=Mc d'.toList;simpa using this
 ·refine⟨rfl,rfl,rfl,by simp[sortWorldK,grow,putRowK,putRow,mapBlock,Sort.ahead],fun k hk' hne=>?_⟩;have:q≠k:=fun e=>hne (by rw[e]);unfold sortWorldK grow putRowK putRow mapBlock Sort.ahead;rw[Array.getElem?_append_left (by simpa using hk')];simp[Array.getElem?_modify,this]
variable {o:Ab}{lo l':List Ab}{lt:List Ae}
theorem Sk{o2:Ab}(h:o.same o2):∀lo,IQ (Bn o lo) (Bn o2 lo)
 |[]=>⟨rfl,fun j hj=>by
  have e:j=0:=by simp[Bn]at hj;omega
  subst e;exact h⟩
 |x::r=>by
  have ih:=Sk h r;have e:o2.id=o.id:=h.1;by_cases hx:o.id<x.id
  ·have a:Bn o (x::r)=o::x::r:=(by simp[Bn,hx]);have b:Bn o2 (x::r)=o2::x::r:=(by simp[Bn,e,hx]);rw[a,b];refine⟨rfl,fun j hj=>?_⟩;cases j with
   |zero=>exact h
   |succ j=>exact Ab.same.refl _
  ·have a:Bn o (x::r)=x::Bn o r:=(by simp[Bn,hx]);have b:Bn o2 (x::r)=x::Bn o2 r:=(by simp[Bn,e,hx]);rw[a,b];refine⟨by simp[ih.1],fun j hj=>?_⟩;cases j with
   |zero=>exact Ab.same.refl _
   |succ j=>exact ih.2 j (by simpa using hj)
theorem Pn:∀{l m:List Ab},l.Pairwise (fun a b=>a.id<b.id)->m.Pairwise (fun a b=>a.id<b.id)->(∀x,x∈l↔x∈m)->l=m
 |[],[],_,_,_=>rfl
 |[],b::m,_,_,h=>by have:=(h b).2 List.mem_cons_self;cases this
 |a::l,[],_,_,h=>by have:=(h a).1 List.mem_cons_self;cases this
 |a::l,b::m,h1,h2,h=>by
  obtain⟨a1,a2⟩:=List.pairwise_cons.1 h1;obtain⟨b1,b2⟩:=List.pairwise_cons.1 h2;have e:a=b:=by
   rcases List.mem_cons.1 ((h a).1 List.mem_cons_self)with e|e
   ·exact e
   ·rcases List.mem_cons.1 ((h b).2 List.mem_cons_self)with e'|e'
    ·exact e'.symm
    ·have:=a1 b e';have:=b1 a e;omega
  subst e;congr 1;refine Pn a2 b2 (fun x=>?_);constructor
  ·intro hx;rcases List.mem_cons.1 ((h x).1 (List.mem_cons_of_mem _ hx))with e|e
   ·subst e;have:=a1 x hx;omega
   ·exact e
  ·intro hx;rcases List.mem_cons.1 ((h x).2 (List.mem_cons_of_mem _ hx))with e|e
   ·subst e;have:=b1 x hx;omega
   ·exact e
theorem R6(o:Ab)(lo:List Ab):(Bn o lo).Perm (lo++[o]):=by
 obtain⟨p,_,e,_⟩:=J8 o lo;rw[e];refine List.perm_middle.trans ?_;rw[List.take_append_drop];exact(List.perm_append_singleton o lo).symm
theorem XC(hr:lo.Pairwise (fun a b=>a.id<b.id))(hn:∀x∈lo,x.id≠o.id):(Bn o lo).Pairwise (fun a b=>a.id<b.id):=by
 induction lo with
 |nil=>simp[Bn]
 |cons x r ih=>
  obtain⟨h1,h2⟩:=List.pairwise_cons.1 hr;have ne:=hn x List.mem_cons_self;by_cases hx:o.id<x.id
  ·have a:Bn o (x::r)=o::x::r:=(by simp[Bn,hx]);rw[a,List.pairwise_cons];refine⟨fun y hy=>?_,hr⟩;rcases List.mem_cons.1 hy with rfl|hy
   ·exact hx
   ·have:=h1 y hy;omega
  ·have a:Bn o (x::r)=x::Bn o r:=(by simp[Bn,hx]);rw[a,List.pairwise_cons];refine⟨fun y hy=>?_,ih h2 (fun y hy=>hn y (List.mem_cons_of_mem _ hy))⟩;rcases Kv hy with rfl|hy
   ·omega
   ·exact h1 y hy
theorem Um(hr:lo.Pairwise (fun a b=>a.id<b.id))(hn:∀x∈lo,x.id≠o.id)(hp:l'.Perm (lo++[o]))(hs:l'.Pairwise (fun a b=>¬b.id<a.id)):l'=Bn o lo:=by
 have ri:=XC hr hn;have nd:l'.Pairwise (fun a b=>a.id≠b.id):=((hp.trans (R6 o lo).symm).pairwise_iff (fun h e=>h e.symm)).2 (ri.imp (fun h=>by omega));refine Pn ((hs.and nd).imp (fun⟨h1,h2⟩=>by omega)) ri (fun x=>?_);exact(hp.trans (R6 o lo).symm).mem_iff
theorem Apart.permO{l:List Ab}(h:Apart lt l)(hp:l'.Perm l):Apart lt l':=
 ⟨((hp.map _).flatten.append_left _).nodup_iff.2 h.c,((hp.map _).flatten.append_left _).nodup_iff.2 h.i,(hp.map _).flatten.nodup_iff.2 h.s⟩
theorem X5(ok:okL lt lo=true):lo.Pairwise (fun a b=>a.id<b.id):=by
 rw[List.pairwise_iff_getElem];intro i j hi hj hij;have h:(Aa lo i).id<(Aa lo j).id:=(Bt.1 ok).rise i j hij hj;rw[Az hi,Az hj]at h;exact h
theorem new_ne(ok:okL lt lo=true){t:Nat}(ht:t<lt.length):∀x∈lo,x.id≠Aq lt[t]:=fun x hx e=>by
 obtain⟨j,hj,rfl⟩:=List.getElem_of_mem hx;have kk:=Bt.1 ok;have X:=Ef ok _ (List.getElem_mem ht);have i:=X.id;have m:=X.made;have nc:Aq lt[t]=1000*lt[t].id+lt[t].made+1:=rfl;have e':(Aa lo j).id=Aq lt[t]:=by rw[Az hj];exact e
 by_cases h0:j=0
 ·subst h0;have:=(FF ok).2.1;omega
 ·obtain⟨t',h1,h2,h3,h4⟩:=EJ kk.thr (kk.num j (by omega) hj);have g1:(Ao lt t').id=(Aa lo j).id/1000:=h2;have g2:(Aa lo j).id%1000<=(Ao lt t').made:=h4;have g3:(Ao lt t).id=lt[t].id:=by rw[Cy ht]
  have e3:t'=t:=(Oj kk.thr).inj h1 ht (by show(Ao lt t').id=(Ao lt t).id;rw[g1,g3,e'];omega);subst e3;rw[Cy ht,e']at g2;omega
theorem Q6.lowB{B:Nat}{w w':World}(h:Q6 w)(hb:Below B w w')(hB:18<=B):Q6 w':=by
 obtain⟨g,hg⟩:=Tryz.tabNamed;have hl:g<18:=by
  have:(prog.globalNamed "internal/strconv.uint64pow10").all (fun g=>decide (g<18))=true:=by kernel_rfl
  rw[hg]at this;simpa using this
 unfold Q6 Lib.TabIs at *;exact var?_below (hb.mono (show g+1<=B by omega)) hg (Nat.lt_succ_self g) h
theorem Rm(w:World)(B P:Nat)(s:Al)(g ca q co:Nat)(lt:List Ae)(lo:List Ab)(t:Nat)(m:Value)(h:Ex w B P s g ca q co lt lo t m)(ht:t<lt.length)(X:Ae)(hX:X=lt[t])(hi:1<=X.id/\X.id<=1000000)(hm:0<=X.made/\X.made<=1000000):
 Calls prog 120 #[.pointer P] w fun e w'=>∃v,e= .returned v/\(v= .int .i64 (Aq X)/\Ex w' B P s g ca q co (lt.set t ⟨X.id,X.b1,X.c1,X.b2,X.c2,X.own,X.made+1⟩) lo t m/\Below B w w'/\w.grownBy w' (some g)):=by
 obtain⟨CW,gl⟩:=h.st.jJ ht;rw[<-hX]at CW;have q0:w.cell? ⟨g,t*7,none⟩=some (.int .i64 X.id):=CW.c0;have q6:w.cell? ⟨g,t*7+6,none⟩=some (.int .i64 X.made):=CW.c6;obtain⟨_,_,_,c12,_⟩:=h.wk.jZ;obtain⟨S1,hg,cur,hcu⟩:=h.setMade (n:=X.made+1) ht hX;have ne:=h.setP;have gf:=hcu.jC;obtain⟨_,_,_,d12,_⟩:=S1.wk.jZ;have el:(lt.set t (⟨X.id,X.b1,X.c1,X.b2,X.c2,X.own,X.made+1⟩:Ae)).length=lt.length:=by simp
 obtain⟨CV,_⟩:=S1.st.jJ (t:=t) (by rw[el];exact ht);have eg:(lt.set t (⟨X.id,X.b1,X.c1,X.b2,X.c2,X.own,X.made+1⟩:Ae))[t]'(by rw[el];exact ht)=⟨X.id,X.b1,X.c1,X.b2,X.c2,X.own,X.made+1⟩:=by simp
 rw[eg]at CV;have r0:(w.setCell ⟨g,t*7+6,none⟩ (.int .i64 (X.made+1))).cell? ⟨g,t*7,none⟩=some (.int .i64 X.id):=CV.c0;have r6:(w.setCell ⟨g,t*7+6,none⟩ (.int .i64 (X.made+1))).cell? ⟨g,t*7+6,none⟩=some (.int .i64 (X.made+1)):=CV.c6;have w1_:IntKind.i64.wrap (1000*X.id)=1000*X.id:=by rw[IntKind.wrap_i64];omega
 have w3_:IntKind.i64.wrap (1000*X.id+(X.made+1))=1000*X.id+(X.made+1):=by rw[IntKind.wrap_i64];omega
 have w4_:IntKind.i64.wrap (X.made+1)=X.made+1:=by rw[IntKind.wrap_i64];omega
 have NC:Hid (Value.int .i64 (1000*X.id+(X.made+1))= .int .i64 (Aq X)):=hid (congrArg _ (by unfold Aq;omega));have S:=hid S1;have BL:=hid (show Below B w (w.setCell ⟨g,t*7+6,none⟩ (.int .i64 (X.made+1))) from(Below.refl B w).setCell hg _);have GR:=hid (As (w:=w) (w1:=w) (q:=g) ⟨rfl,rfl,rfl,Nat.le_refl _,fun _ _ _=>rfl⟩ (t*7+6) (.int .i64 (X.made+1)));have n1:¬P=g:=ne.1;have n2:¬g=P:=Ne.symm ne.1;clear h CW CV S1 el eg hX ne;go_enter func120,ntmps120
 go_wp2_with fail
 have e0:(w.setCell ⟨g,t*7+6,none⟩ (.int .i64 (X.made+1))).drew.cell? ⟨g,t*7,none⟩=some (.int .i64 X.id):=r0;have e6:(w.setCell ⟨g,t*7+6,none⟩ (.int .i64 (X.made+1))).drew.cell? ⟨g,t*7+6,none⟩=some (.int .i64 (X.made+1)):=r6;have e12:(w.setCell ⟨g,t*7+6,none⟩ (.int .i64 (X.made+1))).drew.cell? ⟨P,12,none⟩=some (.pointer (some ⟨g,t*7,none⟩)):=d12;clear r0 r6 d12;have SD:=hid (S.out.below (Below.refl _ _).drew);have BD:=hid (show Below B w (w.setCell ⟨g,t*7+6,none⟩ (.int .i64 (X.made+1))).drew from BL.out.drew);have GD:=hid (Fq GR (Below.refl _ _).drew);go_region_law fail
 all_goals(
  go_wp2;go_ret;exact⟨_,rfl,NC,SD,BD,GD⟩)
end Go.Proofs.YteoihknaljgocaaGreatDoor
