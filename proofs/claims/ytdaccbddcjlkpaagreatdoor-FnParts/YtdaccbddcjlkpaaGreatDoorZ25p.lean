import Derived.Shelf.SlSortCmp.WholeK
import Derived.Ground.SlsfProg
import Derived.Test.YtdaccbddcjlkpaaGreatDoorNF4p
set_option maxRecDepth 100000
set_option maxHeartbeats 16000000
namespace Go.Proofs.YtdaccbddcjlkpaaGreatDoor
open Go Go.RowKit Go.Deep Go.Maps Go.BigFrame Go.Shelf Go.Proofs.Tryz
open _root_.List renaming getElem_mem→qk
variable {lt:List Ae}{lo:List Ab}
structure NZ(lt:List Ae)(lo:List Ab):Prop where
 tn:1<=lt.length/\lt.length<=9
 on:1<=lo.length/\lo.length<=271
 t:∀x∈lt,x.small
 o:∀x∈lo,x.small/\(0<=x.id/\x.id<=1000000)/\Tb x.up
theorem Ou(ok:okL lt lo=true):NZ lt lo:=by
 refine⟨Gh ok,Er ok,fun x hx=>(FK ok x hx).small,fun x hx=>?_⟩;have f:=Fs ok x hx;have it:=Mq ok x hx;refine⟨⟨by have:=(Ce f.l1).2;omega,by have:=GK f.data;omega,⟨by omega,fun i hi=>by have:=GK (it.2 i hi);omega⟩,by have:=JH f.own;omega,by have:=(Ce f.l2).2;omega⟩,Iv ok x hx,?_⟩;obtain⟨i,hi,e⟩:=List.mem_iff_getElem.1 hx;have e2:Aa lo i=x:=(AL hi).trans e;by_cases h0:i=0
 ·subst h0;have:=(GU ok).2.2;rw[e2]at this;rw[this];exact Tb.of qQ qQ
 ·obtain⟨p,p1,p2,_⟩:=(BU.1 ok).box i qQ hi;have p3:(Aa lo p).id=(Aa lo i).up:=p2;have hp:p<lo.length:=p1;have:=Iv ok _ (qk hp);rw[e2,AL hp]at p3;rw[<-p3];exact Tb.of qQ qQ
theorem Jn.F(h:Jn lt lo):NZ lt lo:=by
 cases h with
 |right h=>exact Ou h
 |up h u o d hu ho hd=>
  have f:=Ou h;refine⟨f.tn,by simpa using f.on,f.t,fun x hx=>?_⟩;rcases G8 hx with rfl|hx
  ·have:=f.o _ (qk hu);rw[<-ho]at this;exact⟨this.1,this.2.1,hd⟩
  ·exact f.o x hx
 |kind h u o d hu ho hd=>
  have f:=Ou h;refine⟨f.tn,by simpa using f.on,f.t,fun x hx=>?_⟩;rcases G8 hx with rfl|hx
  ·have:=f.o _ (qk hu);rw[<-ho]at this;exact this
  ·exact f.o x hx
 |made h X d ht hX hd=>
  have f:=Ou h;refine⟨by simpa using f.tn,f.on,fun x hx=>?_,f.o⟩;rcases G8 hx with rfl|hx
  ·have:=f.t _ (qk ht);rw[<-hX]at this;exact this
  ·exact f.t x hx
theorem NZ.data(h:NZ lt lo):∀x∈lo,x.data.size<=maxLen:=fun x hx=>by
 have:=(h.o x hx).1.2.1;unfold maxLen;omega
theorem bM(a:Option Addr)(n cap:Nat)(w:World):Calls prog 4 #[.slice a n cap] w fun e w'=>e= .returned (.bool (decide (1048576<n)))/\w'=w:=by
 go_enter func4,ntmps4
 go_wp2;go_ret;refine⟨Ah ?_,rfl⟩;congr 1;apply propext;omega

variable {s:Aj}{w w':World}
def Aj.own(s:Aj)(w:World):Prop:=s.c1.new 0 w/\s.c2.new 0 w/\s.data.size<=100/\0<=s.id/\s.id<=1000000
theorem Aj.own.at(h:s.own w):s.at w:=⟨h.1.1,h.2.1.1,Nat.le_trans h.2.2.1 (by unfold maxLen;omega)⟩
theorem Aj.own.keeps(h:s.own w)(k:Em w w'):s.own w':=⟨h.1.keeps k,h.2.1.keeps k,h.2.2⟩
theorem Aj.own.below(h:s.own w)(k:Below w w w'):s.own w':=⟨h.1.below k,h.2.1.below k,h.2.2⟩
section
variable {k:Av} (ok:Bh k=true)
include ok
end

theorem Fy.right{k:Av}{s:Aj}{c:Int}{tx:ByteArray}{lt:List Ae}{lo:List Ab}(h:Fy k s c tx lt lo)(hc:c≠1):Bh k=true/\Go.Proofs.YtdaccbddcjlkpaaGreatDoor.okL lt lo=true:=by
 rcases h with⟨_,e,_⟩|⟨a,Ju,Qf,lt2,lo2,b,x,y,d⟩
 ·exact(hc e).elim
 ·have o0:Go.Proofs.YtdaccbddcjlkpaaGreatDoor.okL Ju Qf=true:=(Cc b).trans a;have o2:=IB o0 d;exact⟨a,(Cc (k:=Df none 0 none 0 lt lo) (l:=Df none 0 none 0 lt2 lo2) ⟨x.1,x.2,y.1,y.2⟩).symm.trans o2⟩
open _root_.Nat renaming le_trans→qj
theorem fP{x:Int}(h:Tb x):(Lit.int .i64 x).wf=true:=by
 have e1:IntKind.i64.min= -9223372036854775808:=by decide
 have e2:IntKind.i64.max=9223372036854775807:=by decide
 simp[Lit.wf,e1,e2];unfold Tb at h;omega
theorem Ho.at{w:World}{B ca co:Nat}{ta oa:Option Addr}{lt:List Ae}{lo:List Ab}(h:Ho w B (.slice ta lt.length ca) (.slice oa lo.length co) lt lo)(f:NZ lt lo):(Df ta ca oa co lt lo).at w:=
 ⟨qj f.tn.2 (by unfold maxLen;omega),qj f.on.2 (by unfold maxLen;omega),h.t.lies (fun x hx=>(h.tn x hx).at),h.o.lies (fun x hx=>(h.on x hx).at (f.data x hx))⟩
theorem NZ.wf{lt:List Ae}{lo:List Ab}(f:NZ lt lo):∀i,i<lo.length->(Lit.int .i64 (Aa lo i).id).wf=true/\(Lit.int .i64 (Aa lo i).up).wf=true:=fun i hi=>by
 have h:=f.o _ (qk hi);rw[AL hi];exact⟨Vg h.2.1,fP h.2.2⟩
theorem NZ.small{lt:List Ae}{lo:List Ab}(f:NZ lt lo)(ta oa:Option Addr)(ca co:Nat):(Df ta ca oa co lt lo).small:=⟨⟨by show lt.length<=1048576;have:=f.tn.2;omega,fun i hi=>by
 have hi':i<lt.length:=hi;show(Be lt i).small;rw[Ey hi'];exact f.t _ (qk hi')⟩,by show lo.length<=1048576;have:=f.on.2;omega,fun i hi=>by
 have hi':i<lo.length:=hi;show(Aa lo i).small;rw[AL hi'];exact(f.o _ (qk hi')).1⟩
structure Kn(B:Nat)(W:World)(lt:List Ae)(lo:List Ab)(ta oa:Option Addr)(ca co:Nat):Prop where
 st:Ho W B (.slice ta lt.length ca) (.slice oa lo.length co) lt lo
 f:NZ lt lo
theorem Kn.below{B:Nat}{W W':World}{lt:List Ae}{lo:List Ab}{ta oa:Option Addr}{ca co:Nat}(h:Kn B W lt lo ta oa ca co)(hb:Below W W W'):Kn B W' lt lo ta oa ca co:=⟨h.st.below hb,h.f⟩
theorem Kn.cap{B:Nat}{W:World}{lt:List Ae}{lo:List Ab}{ta oa:Option Addr}{ca co:Nat}(h:Kn B W lt lo ta oa ca co):lo.length<=co:=(Dj h.st.o).1
def Mp(W:World)(E:Nat->Addr):Prop:=LY W E/\Zx W E/\Td W
theorem Mp.below{W W':World}{E:Nat->Addr}(h:Mp W E)(hb:Below W W W'):Mp W' E:=⟨h.1.below (by have:=h.2.1.2.2.2;omega) hb,h.2.1.below hb,h.2.2.below hb⟩
section
variable {B:Nat}{W:World}{lt:List Ae}{lo:List Ab}{ta oa:Option Addr}{ca co:Nat} (h:Kn B W lt lo ta oa ca co)
include h
theorem Kn.done{E:Nat->Addr}{s:Aj}(hr:Zk E s)(hs:s.at W)(v:Mp W E):Calls prog 37 #[.agg #[.slice ta lt.length ca,.slice oa lo.length co],.agg s] W fun e w'=>fZ (Df ta ca oa co lt lo) s W e w':=
 (Lz E (Df ta ca oa co lt lo) s hr W (h.st.at h.f) hs h.cap h.f.wf v.1 v.2.1 v.2.2).mono fun _ _ d=>d.ans
end
theorem Fy.ok2{ta oa:Option Addr}{ca co:Nat}{lt lt':List Ae}{lo lo':List Ab}{s:Aj}{c:Int}{tx:ByteArray}(ok:Go.Proofs.YtdaccbddcjlkpaaGreatDoor.okL lt lo=true)(h:Fy (Df ta ca oa co lt lo) s c tx lt' lo'):Go.Proofs.YtdaccbddcjlkpaaGreatDoor.okL lt' lo'=true:=by
 rcases h with⟨e,_⟩|⟨a,Ju,Qf,lt2,lo2,b,x,y,d⟩
 ·rw[show Bh (Df ta ca oa co lt lo)=true from ok]at e;cases e
 ·have o0:Go.Proofs.YtdaccbddcjlkpaaGreatDoor.okL Ju Qf=true:=(Cc b).trans a;exact(Cc (k:=Df none 0 none 0 lt' lo') (l:=Df none 0 none 0 lt2 lo2) ⟨x.1,x.2,y.1,y.2⟩).symm.trans (IB o0 d)
section
variable {X:Ae}{s:Aj}{lt lt':List Ae}{lo lo':List Ab}{t:Nat}{c:Int}{tx:ByteArray}
end
open Go.Value renaming pointer→pT,int→iT
open Go.IntKind renaming i64→qH
open Go.Obj renaming cells→qG
open _root_.List renaming set→qF
open Go renaming World→qM
def NU(X:Ae)(s:Aj)(lo:List Ab)(c:Int):Prop:=(c=4/\Gg X s lo=false)∨(c=5/\Gg X s lo=true/\X.made=30)∨(c=0/\Gg X s lo=true/\X.made≠30)
theorem Mw{X:Ae}{s:Aj}{lo:List Ab}(h:Gg X s lo=false):NU X s lo 4:= .inl ⟨rfl,h⟩
theorem FP{X:Ae}{s:Aj}{lo:List Ab}{u:Nat}(h:Hq lo s.id=some u):Gg X s lo=(decide ((Aa lo u).kind=3)&&Ap X (Aa lo u).b1 (Aa lo u).c1&&El X.b1 X.c1 X.own s.b1 s.c1&&El s.b1 s.c1 X.own X.b2 X.c2&&(!decide (0<s.cat)||hasB X.own.n X.own.h s.cat)):=by
 unfold Gg;rw[h]
theorem Ka(w:qM)(A B:Obj):Ag ((w.alloc A).alloc B).drew w A/\Ag ((w.alloc A).alloc B).drew (w.heap.size+1) B/\Below w w ((w.alloc A).alloc B).drew:=
 ⟨(Ag.new w A).alloc B,by have h:=Ag.new (w.alloc A) B;rw[show(w.alloc A).heap.size=w.heap.size+1 from by simp]at h;exact h,((Bg w _).alloc sI _).drew⟩
section
variable {E:Nat->Addr}{w:qM}{B P:Nat}{s:Aj}{g ca q co:Nat}{lt:List Ae}{lo:List Ab}{t c C:Nat}{nb:Nat->Nat}{kv:Nat->Value}{K:Nat->List Int}{X:Ae}
theorem Uv(v:Env E w B P s g ca q co lt lo t c C nb kv K X)(hcat:0<=s.cat):
 Calls prog 169 #[pT P] w fun e w'=>∃r,e= .returned r/\Below w w w'/\∃c',Told w' B E r c'/\NU X s lo c':=by
 have VV:=qC v;have CW:=(v.h.st.jJ v.ht).1;have gl:=(v.h.st.jJ v.ht).2;rw[<-v.hX]at CW;obtain⟨⟨s0,s1,s2,s3,s4,s5,s6,s7,s8,s9⟩,_,_,c12,_⟩:=Ag.jZ (show Ag w.drew P _ from v.h.wk);have pl:P<w.heap.size:=v.h.wk.lt;have q0:w.drew.cell? ⟨g,t*7,none⟩=some (iT qH X.id):=CW.c0;have q1:w.drew.cell? ⟨g,t*7+1,none⟩=some (iT qH X.b1):=CW.c1;have q2:w.drew.cell? ⟨g,t*7+2,none⟩=some (.slice X.c1.a X.c1.n X.c1.k):=CW.c2;have q3:w.drew.cell? ⟨g,t*7+3,none⟩=some (iT qH X.b2):=CW.c3;have q4:w.drew.cell? ⟨g,t*7+4,none⟩=some (.slice X.c2.a X.c2.n X.c2.k):=CW.c4;have q5:w.drew.cell? ⟨g,t*7+5,none⟩=some (.slice X.own.a X.own.n X.own.k):=CW.c5;have q6:w.drew.cell? ⟨g,t*7+6,none⟩=some (iT qH X.made):=CW.c6;obtain⟨⟨k0,k1,k2,k3,k4,k5,k6,k7,k8,k9⟩,_,_,v12,_⟩:=v.h.wk.jZ;have p0:w.cell? ⟨g,t*7,none⟩=some (iT qH X.id):=CW.c0;have p1:w.cell? ⟨g,t*7+1,none⟩=some (iT qH X.b1):=CW.c1;have p2:w.cell? ⟨g,t*7+2,none⟩=some (.slice X.c1.a X.c1.n X.c1.k):=CW.c2;have p3:w.cell? ⟨g,t*7+3,none⟩=some (iT qH X.b2):=CW.c3;have p4:w.cell? ⟨g,t*7+4,none⟩=some (.slice X.c2.a X.c2.n X.c2.k):=CW.c4;have p5:w.cell? ⟨g,t*7+5,none⟩=some (.slice X.own.a X.own.n X.own.k):=CW.c5;have p6:w.cell? ⟨g,t*7+6,none⟩=some (iT qH X.made):=CW.c6;have n1:¬P=w.heap.size:=by omega
 have n2:¬P=w.heap.size+1:=by omega
 have n3:¬g=w.heap.size:=by omega
 have n4:¬g=w.heap.size+1:=by omega
 have HC:=qC hcat;clear v CW hcat;go_enter func169,ntmps169
 go_upto_region 1 with fail
 go_cut[3,4] from 5 (fun a b w1=>∃p r,a= pT (some ⟨p,0,none⟩)/\b= pT (some ⟨r,0,none⟩)/\Ag w1 p (qG s 50)/\Ag w1 r (qG X 53)/\Below w w w1)
 case first=>
  go_region_law fail
  all_goals(
   go_wp2_with fail
   go_meet;case rel=>first|exact⟨_,_,rfl,rfl,(Ka w _ _).1,(Ka w _ _).2.1,(Ka w _ _).2.2⟩|exact⟨_,_,rfl,rfl,(Ka w _ _).2.1,(Ka w _ _).1,(Ka w _ _).2.2⟩)
 case rest=>
  obtain⟨p,r,rfl,rfl,AP,AR,hb⟩:=hcut;generalize wc=w1 at *;have A1:=qC hb;have SP:=qC AP;have TR:=qC AR;clear hb AP AR s0 s1 s2 s3 s4 s5 s6 s7 s8 s9 c12 q0 q1 q2 q3 q4 q5 q6 k0 k1 k2 k3 k4 k5 k6 k7 k8 k9 v12 p0 p1 p2 p3 p4 p5 p6 n1 n2 n3 n4 pl gl;have V1:=VV.out.below A1.out;have THH:=qC (Jw w1 B P s g ca q co lt lo t c C lo.length _ nb kv K V1.h V1.n nr (Cx V1.ok) s.id (gv (Hu V1.so)));clear V1;obtain⟨x0,x1,x2,x3,x4,x5,x6,x7,x8,x9⟩:=SP.out.jE;go_wp2_with fail
  refine THH.out.mono ?_;rintro e w2 ⟨hr,b2⟩;have B2:=qC b2;have A2:=qC (Af A1 b2);clear THH b2 x0 x1 x2 x3 x4 x5 x6 x7 x8 x9;rcases hr with⟨hf,rfl⟩|⟨u,hf,rfl⟩
  ·have MP:Hid (NU X s lo 4):=qC (Mw (by unfold Gg;rw[show Hq lo s.id=none from hf]));clear hf;have a0:=bE 245 w2;have A3:=qC (Af A2 (Bg w2 (qG #[pT none] 254)));have e9:=((VV.out.below A3).e 6 qQ qQ).1;have sz:=(VV.out.below A3).hB;go_wp2_with fail
   refine(Bv 314 (pT (some (E 6))) _).mono ?_;rintro e w9 ⟨rfl,rfl⟩;go_wp2;go_ret;have b3:=Af A3 (Bg _ (qG #[iT qH 4,.iface 314 (pT (some (E 6)))] 145));exact⟨_,rfl,b3,4,Cz _ E sz 4 qX 6 qX qX qX qZ,MP⟩
  ·obtain⟨ul,_⟩:=AH hf;have HF:Hid (Hq lo s.id=some u):=qC hf;clear hf;by_cases h3:(Aa lo u).kind=3;rotate_left
   ·have MP:Hid (NU X s lo 4):=qC (Mw (by rw[FP HF.out];simp[h3]));have hT:Fb (Aa lo u).kind≠254:=by
     unfold Fb;split
     ·decide
     ·split
      ·decide
      ·first|decide|(rw[if_neg h3];decide)
    generalize Fb (Aa lo u).kind=T at hT ⊢;have a0:=YR 245 T (.agg #[pT (some ⟨q,u*10,none⟩)]) w2 hT;have A3:=qC (Af A2 (Bg w2 (qG #[pT none] 254)));clear hT h3;have e9:=((VV.out.below A3).e 6 qQ qQ).1;have sz:=(VV.out.below A3).hB;go_wp2_with fail
    refine(Bv 314 (pT (some (E 6))) _).mono ?_;rintro e w9 ⟨rfl,rfl⟩;go_wp2;go_ret;have b3:=Af A3 (Bg _ (qG #[iT qH 4,.iface 314 (pT (some (E 6)))] 145));exact⟨_,rfl,b3,4,Cz _ E sz 4 qX 6 qX qX qX qZ,MP⟩
   have ty:Fb (Aa lo u).kind=254:=(by rw[h3];rfl);rw[ty];have H3:=qC h3;clear ty h3;have n7:Na #[pT (some ⟨q,u*10,none⟩)]:=⟨⟩;have a0:=WX 245 (.agg n7) w2;have n5:Nw (w2.alloc (qG n7 254)):=⟨⟩;have b3:Below w2 w2 n5:=Bg w2 _;have A3:=qC (Af A2 b3);have d0:(n5:qM).cell? ⟨w2,0,none⟩=some (pT (some ⟨q,u*10,none⟩)):=(by go_simp);have B3:=qC (Af B2 b3);clear b3;have n6:Na X:=⟨⟩;have BS:Hid (∀W,Below (n5:qM).heap.size n5 W->Ag W p (qG s 50)/\Ag W r (qG n6 53)):=qC (fun W hW=>⟨SP.out.below (Af B3 hW),TR.out.below (Af B3 hW)⟩);have BY:Hid (∀W,Below (n5:qM).heap.size n5 W->Ag W r (qG n6 53)/\W.cell? ⟨w2,0,none⟩=some (pT (some ⟨q,u*10,none⟩))):=qC (fun W hW=>⟨(BS W hW).2,(hW.cell (p:=⟨w2,0,none⟩) sI).trans d0⟩);go_upto_region 5 with fail
   clear a0 d0;have EL:Hid (∀args w,(callFunc 198 args).run prog w= .ok (.enter 198 args) w):=qC (enters_of func198 kR rfl);have EC:Hid (∀args w,(callFunc 175 args).run prog w= .ok (.enter 175 args) w):=qC (enters_of func175 kR rfl);have D0:=qC (Below.refl (n5:qM).heap.size n5).drew;have PL:Hid (Calls prog 198 #[.agg n7] (n5:qM).drew fun e w'=>∃v,e= .returned v/\(v= .agg #[iT qH (Aa lo u).b1,.slice (Aa lo u).c1.a (Aa lo u).c1.n (Aa lo u).c1.k]/\Below (n5:qM).drew.heap.size (n5:qM).drew w')):=qC (by
    have V:=VV.out.below (Af A3 D0);obtain⟨CO,ql⟩:=V.h.st.jF ul (Cx V.ok);rw[<-AL ul]at CO;exact(MC q (u*10) (Aa lo u).b1 (Aa lo u).c1 _ ql CO.c3 CO.c4).mono fun _ _ h=>⟨_,h.1,rfl,h.2⟩)
   refine Am 7 (fun W=>Below (n5:qM).heap.size n5 W) kR ?_;refine tr 0 31 (.agg n6) D0 ?_ (hy:=fun W h=>by obtain⟨y0,y1,y2,y3,y4,y5,y6⟩:=(BY W h).1.seven;go_simp);refine tr 1 32 (pT (w2)) D0 ?_;refine tr 2 33 (.agg n7) D0 ?_ (hy:=fun W h=>by have y:=(BY W h).2;go_simp);refine Ac (i:=3) kR rfl ?_;intro K hK;refine An qK 198 _ _ qK EL _ qK (some 34) qK _ PL ?_;rintro v w3 ⟨rfl,b3⟩;have V2:=qC (Af D0 b3);refine hK _ _ (fun _=>V2) ?_;clear hK K b3;simp only[ap,qF];have PS:=qC (Ez (VV.out.changes u ul _ (Af A3 V2)));refine Ac (i:=4) kR rfl ?_;intro K hK;refine Ay qK 175 _ _ _ qK EC _ _ qK qK (some 35) qK _ PS ?_;rintro v w4 ⟨rfl,b4⟩;have V3:=qC (Af V2 b4);refine hK _ _ (fun _=>V3) ?_;clear hK K b4 PS;simp only[ap,qF];refine tr 5 36 (.bool (!Ap X (Aa lo u).b1 (Aa lo u).c1)) V3 ?_;refine tr 6 30 (.bool (!Ap X (Aa lo u).b1 (Aa lo u).c1)) V3 ?_;refine Ai kR ?_ _;have A4:=qC (Af A3 V3);cases hc:Ap X (Aa lo u).b1 (Aa lo u).c1 with
   |false=>
    have MP:Hid (NU X s lo 4):=qC (Mw (by rw[FP HF.out,hc];simp));clear hc;have e9:=((VV.out.below A4).e 8 qQ qQ).1;have sz:=(VV.out.below A4).hB;go_wp2_with fail
    refine(Bv 314 (pT (some (E 8))) _).mono ?_;rintro e w9 ⟨rfl,rfl⟩;go_wp2;go_ret;have b3:=Af A4 (Bg _ (qG #[iT qH 4,.iface 314 (pT (some (E 8)))] 145));exact⟨_,rfl,b3,4,Cz _ E sz 4 qX 8 qX qX qX qZ,MP⟩
   |true=>
    have HCh:=qC hc;clear hc;obtain⟨x0,x1,x2,x3,x4,x5,x6,x7,x8,x9⟩:=(BS _ V3).1.jE;obtain⟨y0,y1,y2,y3,y4,y5,y6⟩:=(BS _ V3).2.seven;have V4:=VV.out.below A4.out;have sa:=V4.hs _ (Below.refl _ _);have sf:=Hu V4.so;have F1:=qC (LZ (V4.xat).1 (V4.xat).2.2 sa.1 V4.thr.l1 V4.thr.own sf.l1);clear V4 sa;go_wp2_with fail
    refine F1.out.mono ?_;rintro e w5 ⟨rfl,b5⟩;have A5:=qC (Af A4 b5);have V5:=qC (Af V3 b5);clear b5 F1 x0 x1 x2 x3 x4 x5 x6 x7 x8 x9 y0 y1 y2 y3 y4 y5 y6;cases h1:El X.b1 X.c1 X.own s.b1 s.c1 with
    |false=>
     have MP:Hid (NU X s lo 4):=qC (Mw (by rw[FP HF.out,h1];simp));clear h1;have e9:=((VV.out.below A5).e 9 qQ qQ).1;have sz:=(VV.out.below A5).hB;go_wp2_with fail
     refine(Bv 314 (pT (some (E 9))) _).mono ?_;rintro e w9 ⟨rfl,rfl⟩;go_wp2;go_ret;have b3:=Af A5 (Bg _ (qG #[iT qH 4,.iface 314 (pT (some (E 9)))] 145));exact⟨_,rfl,b3,4,Cz _ E sz 4 qX 9 qX qX qX qZ,MP⟩
    |true=>
     have HF1:=qC h1;clear h1;obtain⟨x0,x1,x2,x3,x4,x5,x6,x7,x8,x9⟩:=(BS _ V5).1.jE;obtain⟨y0,y1,y2,y3,y4,y5,y6⟩:=(BS _ V5).2.seven;have V4:=VV.out.below A5.out;have sa:=V4.hs _ (Below.refl _ _);have F1:=qC (LZ sa.1 (V4.xat).2.2 (V4.xat).2.1 sf.l1 V4.thr.own V4.thr.l2);clear V4 sa;go_wp2_with fail
     refine F1.out.mono ?_;rintro e w6 ⟨rfl,b6⟩;have A6:=qC (Af A5 b6);have V6:=qC (Af V5 b6);clear b6 F1 x0 x1 x2 x3 x4 x5 x6 x7 x8 x9 y0 y1 y2 y3 y4 y5 y6;cases h2:El s.b1 s.c1 X.own X.b2 X.c2 with
     |false=>
      have MP:Hid (NU X s lo 4):=qC (Mw (by rw[FP HF.out,h2];simp));clear h2;have e9:=((VV.out.below A6).e 9 qQ qQ).1;have sz:=(VV.out.below A6).hB;go_wp2_with fail
      refine(Bv 314 (pT (some (E 9))) _).mono ?_;rintro e w9 ⟨rfl,rfl⟩;go_wp2;go_ret;have b3:=Af A6 (Bg _ (qG #[iT qH 4,.iface 314 (pT (some (E 9)))] 145));exact⟨_,rfl,b3,4,Cz _ E sz 4 qX 9 qX qX qX qZ,MP⟩
     |true=>
      have HF2:=qC h2;clear h2;obtain⟨x0,x1,x2,x3,x4,x5,x6,x7,x8,x9⟩:=(BS _ V6).1.jE;obtain⟨y0,y1,y2,y3,y4,y5,y6⟩:=(BS _ V6).2.seven;by_cases hz:s.cat=0
      ·have z1:(s.cat != 0)=false:=(by simp[hz]);have MB:Hid (Gg X s lo=true):=qC (by rw[FP HF.out,H3.out,HCh.out,HF1.out,HF2.out,hz];simp);by_cases hm:X.made=30
       ·rw[hm]at y6;have MP:Hid (NU X s lo 5):=qC (.inr (.inl ⟨rfl,MB,hm⟩));clear hm;have e9:=((VV.out.below A6).e 4 qQ qQ).1;have sz:=(VV.out.below A6).hB;go_wp2_with fail
        refine(De 5 314 (pT (some (E 4))) _).mono ?_;rintro e w9 ⟨rfl,rfl⟩;go_wp2;go_ret;have b3:=Af A6 (Bg _ (qG #[iT qH 5,.iface 314 (pT (some (E 4)))] 145));exact⟨_,rfl,b3,5,Cz _ E sz 5 qX 4 qX qX qX qZ,MP⟩
       ·have m1:(X.made==30)=false:=(by simp[hm]);have MP:Hid (NU X s lo 0):=qC (.inr (.inr ⟨rfl,MB,hm⟩));go_wp2;go_ret;exact⟨_,rfl,A6,0,.inl ⟨rfl,rfl⟩,MP⟩
      ·have z1:(s.cat != 0)=true:=(by simp[hz]);have z2:(s.cat==0)=false:=(by simp[hz]);have zp:0<s.cat:=(by have:=HC.out;omega);have ZP:=qC zp;have V4:=VV.out.below A6.out;have CT:=qC (I3 X.own.a X.own.n X.own.k X.own.h s.cat w6 V4.xat.2.2.1 V4.xat.2.2.2);clear V4 zp;go_wp2_with fail
       refine CT.out.mono ?_;rintro e w7 ⟨rfl,rfl⟩;clear CT;cases h5:hasB X.own.n X.own.h s.cat with
       |false=>
        have MP:Hid (NU X s lo 4):=qC (Mw (by rw[FP HF.out,h5];simp[ZP.out]));clear h5 x0 x1 x2 x3 x4 x5 x6 x7 x8 x9 y0 y1 y2 y3 y4 y5 y6;have e9:=((VV.out.below A6).e 10 qQ qQ).1;have sz:=(VV.out.below A6).hB;go_wp2_with fail
        refine(Bv 314 (pT (some (E 10))) _).mono ?_;rintro e w9 ⟨rfl,rfl⟩;go_wp2;go_ret;have b3:=Af A6 (Bg _ (qG #[iT qH 4,.iface 314 (pT (some (E 10)))] 145));exact⟨_,rfl,b3,4,Cz _ E sz 4 qX 10 qX qX qX qZ,MP⟩
       |true=>
        have MB:Hid (Gg X s lo=true):=qC (by rw[FP HF.out,H3.out,HCh.out,HF1.out,HF2.out,h5];simp);clear h5;by_cases hm:X.made=30
        ·rw[hm]at y6;have MP:Hid (NU X s lo 5):=qC (.inr (.inl ⟨rfl,MB,hm⟩));clear hm;have e9:=((VV.out.below A6).e 4 qQ qQ).1;have sz:=(VV.out.below A6).hB;go_wp2_with fail
         refine(De 5 314 (pT (some (E 4))) _).mono ?_;rintro e w9 ⟨rfl,rfl⟩;go_wp2;go_ret;have b3:=Af A6 (Bg _ (qG #[iT qH 5,.iface 314 (pT (some (E 4)))] 145));exact⟨_,rfl,b3,5,Cz _ E sz 5 qX 4 qX qX qX qZ,MP⟩
        ·have m1:(X.made==30)=false:=(by simp[hm]);have MP:Hid (NU X s lo 0):=qC (.inr (.inr ⟨rfl,MB,hm⟩));go_wp2;go_ret;exact⟨_,rfl,A6,0,.inl ⟨rfl,rfl⟩,MP⟩
end
open Go.Value renaming slice→qV
open Go.World renaming ownsRow→qq,cell?→xW
open _root_.Option renaming some→jV
open _root_.Array renaming getElem?_eq_some_iff→jD
theorem Bz.subO{w w':World}{B q co co':Nat}{vt:Value}{lt:List Ae}{l l':List Ab}(h:Bz w B vt (qV q l.length co) lt l)(ho:AW w' B (qV q l'.length co') l')(hg:w.grownBy w' (some q))(hp:∀x∈l',x∈l):Bz w' B vt (qV q l'.length co') lt l'/\Dk w w':=by
 have hq:∃cur,w.heap[q]? =some (qG cur 59 (0,0)):=by
  rcases h.o.2 with⟨hv,_⟩|⟨g,cap,cur,hv,_,hgg,_⟩
  ·cases hv
  ·cases hv;exact⟨cur,hgg⟩
 obtain⟨cq,hq⟩:=hq;have kk:Dk w w':=⟨hg.size,fun k cs t hk _ h1=>hg.block k (jD.1 hk).1 (fun e=>by
  cases e;rw[hq]at hk;simp only[jV.injEq,Obj.cells.injEq,and_true]at hk;exact h1 hk.2.symm)⟩
 refine⟨⟨?_,ho,fun y hy=>(h.tn y hy).keeps kk.l,fun y hy=>(h.on y (hp y hy)).keeps kk.l,h.tc,fun y hy=>h.oc y (hp y hy)⟩,kk⟩;refine⟨h.t.1,?_⟩;rcases h.t.2 with hn|⟨g,cap,cur,hv,hbg,hgg,rest⟩
 ·exact .inl hn
 ·refine .inr ⟨g,cap,cur,hv,hbg,?_,rest⟩;refine(hg.block g (jD.1 hgg).1 (fun e=>?_)).trans hgg;cases e;rw[hq]at hgg;simp at hgg
theorem Bz.setW{w:World}{B P i:Nat}{vt vo:Value}{lt:List Ae}{lo:List Ab}{cs:Array Value}(h:Bz w B vt vo lt lo)(hb:Ag w P (qG cs 175))(u:Value):Bz (w.setCell ⟨P,i,none⟩ u) B vt vo lt lo:=by
 have k:=Aq (i:=i) hb qX u;exact⟨h.t.set hb qX u,h.o.set hb qX u,fun x hx=>(h.tn x hx).keeps k,fun x hx=>(h.on x hx).keeps k,h.tc,h.oc⟩
theorem Of{L' L:List (List Nat)}(h:L'.Sublist L):L'.flatten.Sublist L.flatten:=by
 induction h with
 |slnil=>exact List.Sublist.refl _
 |cons a _ ih=>exact ih.trans (List.sublist_append_right _ _)
 |cons_cons a _ ih=>exact(List.Sublist.refl a).append ih
theorem Apart.subO{lt:List Ae}{l l':List Ab}(h:Apart lt l)(hs:l'.Sublist l):Apart lt l':=
 ⟨h.c.sublist ((List.Sublist.refl _).append (Of (hs.map _))),h.i.sublist ((List.Sublist.refl _).append (Of (hs.map _))),h.s.sublist (Of (hs.map _))⟩
section
variable {E:Nat->Addr}{w:World}{B P:Nat}{s:Aj}{g ca q co:Nat}{lt:List Ae}{lo:List Ab}{t c C:Nat}{nb:Nat->Nat}{kv:Nat->Value}{K:Nat->List Int}{X:Ae}
theorem Env.nodes(v:Env E w B P s g ca q co lt lo t c C nb kv K X):Ei w C c lo.length (fun i=>(Aa lo i).id) q 0 nb kv (BZ (fun i=>(Aa lo i).id) (fun i=>(Aa lo i).up) lo.length):=
 ⟨v.n.map,v.n.blk,v.n.inj,fun i hi=>by have h:=v.n.own i hi;rw[v.kid i hi]at h;exact h,v.n.apart,v.n.low,v.n.lowc⟩
theorem TV{lt:List Ae}{lo:List Ab}(ok:okL lt lo=true){u:Nat}(hu:u<lo.length):(Aa lo u).id=1↔u=0:=by
 have r:=(GU ok).2.1;constructor
 ·intro h;by_cases e:u=0
  ·exact e
  ·have h':(Aa lo 0).id<(Aa lo u).id:=(BU.1 ok).rise 0 u qQ hu;omega
 ·intro e;subst e;exact r
theorem aM(v:Env E w B P s g ca q co lt lo t c C nb kv K X)(hk:s.kind=11):
 Calls prog 145 #[pT P] w fun e w'=>∃r,e= .returned r/\Kz E B P s lt lo t X (.map (some c)) w w' ⟨#[]⟩ r:=by
 have VV:=qC v;have HK:=qC hk;obtain⟨⟨s0,s1,s2,s3,s4,s5,s6,s7,s8,s9⟩,_,_,c12,c13⟩:=Ag.jZ (show Ag w.drew P _ from v.h.wk);obtain⟨⟨k0,k1,k2,k3,k4,k5,k6,k7,k8,k9⟩,_,_,v12,v13⟩:=v.h.wk.jZ;have LK:=(v.n.below (Below.refl _ w).drew).map.look (gv (Hu v.so));have LK2:=v.n.map.look (gv (Hu v.so));have BX:Hid (∀W,Below w w W->Ag W P (qG (IN s g lt.length ca q lo.length co t (.map (some c))) 175)/\FA W g (t*7) X/\(∀i,i<lo.length->W.cell? ⟨nb i,0,none⟩=some (pT (some ⟨q,i*10,none⟩))/\W.cell? ⟨nb i,1,none⟩=some (kv i))/\(∀i,i<lo.length->Di W q (i*10) (Aa lo i))):=qC (fun W hW=>by
  have V:=VV.out.below hW;have C7:=(V.h.st.jJ V.ht).1;rw[<-V.hX]at C7;refine⟨V.h.wk,C7,fun i hi=>?_,fun i hi=>?_⟩
  ·have b:=V.n.blk i hi;rw[Nat.zero_add]at b;exact b.two
  ·have C0:=(V.h.st.jF hi (Cx V.ok)).1;rw[<-AL hi]at C0;exact C0)
 clear v hk;cases hf:Hq lo s.id with
 |none=>
  rw[show Bq (fun i=>(Aa lo i).id) lo.length s.id=none from hf]at LK LK2;simp only[Option.map_none]at LK LK2;have AN:Hid (GC X s lt lo t 4 ⟨#[]⟩ lt lo):=qC (.drop HK rfl rfl (.inl ⟨rfl,by unfold Hj;rw[hf],rfl⟩));clear hf;go_enter func145,ntmps145
  go_upto_region 1 with fail
  go_cut[3] from 5 (fun a wc=>a= pT none/\wc=w.drew)
  case first=>
   go_region_law fail
   all_goals(
    go_wp2_with fail
    go_meet;case rel=>exact⟨rfl,rfl⟩)
  case rest=>
   obtain⟨rfl,rfl⟩:=hcut;clear LK LK2 s0 s1 s2 s3 s4 s5 s6 s7 s8 s9 c12 c13 k0 k1 k2 k3 k4 k5 k6 k7 k8 k9 v12 v13;have A1:=qC (Below.refl w w).drew;have e9:=((VV.out.below A1).e 6 qQ qQ).1;have sz:=(VV.out.below A1).hB;go_wp2_with fail
   refine(Bv 314 (pT (some (E 6))) _).mono ?_;rintro e w9 ⟨rfl,rfl⟩;go_wp2;go_ret;have b3:=Af A1 (Bg _ (qG #[.int .i64 4,.iface 314 (pT (some (E 6)))] 145));exact⟨_,rfl,.no (.of (VV.out.below b3).h.wk) (b3.mono VV.out.hB) (Cz _ E sz 4 qX 6 qX qX qX qZ) qX (AN)⟩
 |some u=>
  rw[show Bq (fun i=>(Aa lo i).id) lo.length s.id=some u from hf]at LK LK2;simp only[Option.map_some]at LK LK2;have HF:=qC hf;have ul:u<lo.length:=(AH hf).1;clear hf;go_enter func145,ntmps145
  go_upto_region 1 with fail
  go_cut[3] from 5 (fun a wc=>a= pT (nb u)/\wc=w.drew)
  case first=>
   go_region_law fail
   all_goals(
    go_wp2_with fail
    go_meet;case rel=>exact⟨rfl,rfl⟩)
  case rest=>
  obtain⟨rfl,rfl⟩:=hcut;clear LK LK2 s0 s1 s2 s3 s4 s5 s6 s7 s8 s9 c12 c13 k0 k1 k2 k3 k4 k5 k6 k7 k8 k9 v12 v13;have A1:=qC (Below.refl w w).drew;have n0:=((BX _ A1).2.2.1 u ul).1;have o0:w.drew.cell? ⟨q,u*10,none⟩=some (.int .i64 (Aa lo u).id):=((BX _ A1).2.2.2 u ul).c0;by_cases h1:(Aa lo u).id=1
  ·have AN:Hid (GC X s lt lo t 4 ⟨#[]⟩ lt lo):=qC (.drop HK rfl rfl (.inl ⟨rfl,by unfold Hj;rw[HF.out,(TV VV.out.ok ul).1 h1];rfl,rfl⟩));rw[h1]at o0;clear h1;have e9:=((VV.out.below A1).e 7 qQ qQ).1;have sz:=(VV.out.below A1).hB;go_wp2_with fail
   refine(Bv 314 (pT (some (E 7))) _).mono ?_;rintro e w9 ⟨rfl,rfl⟩;go_wp2;go_ret;have b3:=Af A1 (Bg _ (qG #[.int .i64 4,.iface 314 (pT (some (E 7)))] 145));exact⟨_,rfl,.no (.of (VV.out.below b3).h.wk) (b3.mono VV.out.hB) (Cz _ E sz 4 qX 7 qX qX qX qZ) qX (AN)⟩
  ·have z1:((Aa lo u).id==1)=false:=(by simpa using h1);have u0:u≠0:=fun e=>h1 ((TV VV.out.ok ul).2 e);obtain⟨p,hp⟩:∃p,Hq lo (Aa lo u).up=some p:=Rs (k:=Df none 0 none 0 lt lo) VV.out.ok ul u0;have HP:=qC hp;have pl:p<lo.length:=(AH hp).1;have UW:(Lit.int .i64 (Aa lo u).up).wf=true:=by
    rw[<-(AH hp).2];exact Nc (Iv VV.out.ok _ (FG pl))
   have LKP:Hid (∀W,Below w w W->_):=qC (fun W hW=>by
    have L:=(VV.out.below hW).n.map.look UW;rw[show Bq (fun i=>(Aa lo i).id) lo.length (Aa lo u).up=some p from hp]at L;exact L)
   clear h1 hp UW;go_upto_region 6 with fail
   clear n0 o0;have D0:=qC (A1.out.drew);have EC:Hid (∀args w,(callFunc 175 args).run prog w= .ok (.enter 175 args) w):=qC (enters_of func175 kR rfl);have EB:Hid (∀args w,(callFunc 62 args).run prog w= .ok (.enter 62 args) w):=qC (enters_of func62 kR rfl);have PS:=qC (Ez (VV.out.changes p pl _ D0));refine Am 27 (fun W=>Below w w W) kR ?_;have n1:Nv (pT P):=⟨⟩;refine tr 0 32 n1 D0 ?_;refine tr 1 33 n1 D0 ?_;refine tr 2 34 (pT (some ⟨P,12,none⟩)) D0 ?_;have n9:Nv (pT (some ⟨g,t*7,none⟩)):=⟨⟩;refine tr 3 35 n9 D0 ?_ (hy:=fun W h=>by obtain⟨⟨k0,k1,k2,k3,k4,k5,k6,k7,k8,k9⟩,k10,k11,k12,k13⟩:=(BX W h).1.jZ;go_simp);refine tr 4 36 n9 D0 ?_;refine tr 5 37 (.agg X) D0 ?_ (hy:=fun W h=>by have C:=(BX W h).2.1;have y0:=C.c0;have y1:=C.c1;have y2:W.cell? ⟨g,t*7+2,none⟩=some (qV X.c1.a X.c1.n X.c1.k):=C.c2;have y3:=C.c3;have y4:W.cell? ⟨g,t*7+4,none⟩=some (qV X.c2.a X.c2.n X.c2.k):=C.c4;have y5:W.cell? ⟨g,t*7+5,none⟩=some (qV X.own.a X.own.n X.own.k):=C.c5;have y6:=C.c6;go_simp);refine tr 6 38 n1 D0 ?_;refine tr 7 39 n1 D0 ?_;refine tr 8 40 (pT (some ⟨P,13,none⟩)) D0 ?_;refine tr 9 41 (.map (some c)) D0 ?_ (hy:=fun W h=>by obtain⟨⟨k0,k1,k2,k3,k4,k5,k6,k7,k8,k9⟩,k10,k11,k12,k13⟩:=(BX W h).1.jZ;go_simp);have n2:Nv (pT (nb u)):=⟨⟩;refine tr 10 42 n2 D0 ?_;refine tr 11 43 n2 D0 ?_;refine tr 12 44 n2 D0 ?_;have n6:Nv (pT (some ⟨q,u*10,none⟩)):=⟨⟩;refine tr 13 45 n6 D0 ?_ (hy:=fun W h=>by have y:=((BX W h).2.2.1 u ul).1;go_simp);refine tr 14 46 n6 D0 ?_;refine tr 15 47 (pT (some ⟨q,u*10+2,none⟩)) D0 ?_;refine tr 16 48 (.int .i64 (Aa lo u).up) D0 ?_ (hy:=fun W h=>by have y:=((BX W h).2.2.2 u ul).c2;go_simp);have n4:Nv (pT (nb p)):=⟨⟩;refine tr 17 49 n4 D0 ?_ (hy:=fun W h=>by have y:=LKP.out W h;go_simp);refine tr 18 50 n4 D0 ?_;refine tr 19 51 n4 D0 ?_;have n8:Nv (pT (some ⟨q,p*10,none⟩)):=⟨⟩;refine tr 20 52 n8 D0 ?_ (hy:=fun W h=>by have y:=((BX W h).2.2.1 p pl).1;go_simp);refine tr 21 53 n8 D0 ?_;refine tr 22 54 (pT (some ⟨q,p*10+3,none⟩)) D0 ?_;refine tr 23 55 (.agg #[.int .i64 (Aa lo p).b1,qV (Aa lo p).c1.a (Aa lo p).c1.n (Aa lo p).c1.k]) D0 ?_ (hy:=fun W h=>by have C:=(BX W h).2.2.2 p pl;have y1:W.cell? ⟨q,p*10+3,none⟩=some (.int .i64 (Aa lo p).b1):=C.c3;have y2:W.cell? ⟨q,p*10+3+1,none⟩=some (qV (Aa lo p).c1.a (Aa lo p).c1.n (Aa lo p).c1.k):=C.c4;go_simp);refine Ac (i:=24) kR rfl ?_;intro K hK;refine Ay qK 175 _ _ _ qK EC _ _ qK qK (some 56) qK _ PS ?_;rintro v w4 ⟨rfl,b4⟩;have V1:=qC (Af D0 b4);refine hK _ _ (fun _=>V1) ?_;clear hK K b4 PS;simp only[ap,qF];refine tr 25 57 (.bool (!Ap X (Aa lo p).b1 (Aa lo p).c1)) V1 ?_;refine tr 26 31 (.bool (!Ap X (Aa lo p).b1 (Aa lo p).c1)) V1 ?_;refine Ai kR ?_ _;cases hc:Ap X (Aa lo p).b1 (Aa lo p).c1 with
   |false=>
    have AN:Hid (GC X s lt lo t 4 ⟨#[]⟩ lt lo):=qC (.drop HK rfl rfl (.inl ⟨rfl,by unfold Hj;rw[HF.out];simp only;rw[HP.out];simp only;rw[hc];simp,rfl⟩));clear hc;have e9:=((VV.out.below V1).e 8 qQ qQ).1;have sz:=(VV.out.below V1).hB;go_wp2_with fail
    refine(Bv 314 (pT (some (E 8))) _).mono ?_;rintro e w9 ⟨rfl,rfl⟩;go_wp2;go_ret;have b3:=Af V1 (Bg _ (qG #[.int .i64 4,.iface 314 (pT (some (E 8)))] 145));exact⟨_,rfl,.no (.of (VV.out.below b3).h.wk) (b3.mono VV.out.hB) (Cz _ E sz 4 qX 8 qX qX qX qZ) qX (AN)⟩
   |true=>
    have DB:Hid (Hj X lo s.id=true):=qC (by unfold Hj;rw[HF.out];simp only;rw[HP.out];simp only;rw[hc];simp;omega);clear hc;go_upto_region 8 with fail
    have D2:=qC V1.out.drew;have PB:Hid (∀W,Below w w W->Calls prog 62 #[.map (some c),.int .i64 (Aa lo u).id] W fun e w'=>∃v,e= .returned v/\∃(a:Option Addr) (k:Nat),v= qV a (Ci lo u).length k/\AI w' W (qV a (Ci lo u).length k) (Ci lo u)/\Below W W w'):=qC (fun W hW=>by
     have V:=VV.out.below hW;have ok:=V.ok;have ho:Cr lo.length (Aa lo)=true:=(Cj (k:=Df none 0 none 0 lt lo) ok).2.1;have on:=Er ok;refine(Rb W C c lo.length (fun i=>(Aa lo i).id) (fun i=>(Aa lo i).up) q 0 nb kv V.nodes (Ch ho) (fun j hj=>by have:=Et ho j hj;have:=(Cy ho).2.2;omega) (fun i hi=>Nc (Iv ok _ (FG hi))) qQ u ul (Kp (k:=Df none 0 none 0 lt lo) ok ul)).mono ?_;rintro e w' ⟨v,rfl,h1,h2⟩;obtain⟨a,k,rfl⟩:=AI.form h1;exact⟨_,rfl,a,k,rfl,h1,h2⟩)
    go_cut[4] from 60 (fun x wc=>∃(vb:Nat) (a:Option Addr) (k:Nat),x= pT vb/\Ag wc vb (qG #[qV a (Ci lo u).length k] 51)/\AI wc w (qV a (Ci lo u).length k) (Ci lo u)/\Below w w wc/\w.heap.size<=vb)
    case first=>
     refine Am 13 (fun W=>Below w w W) kR ?_;have n10:Nv (pT P):=⟨⟩;refine tr 0 60 n10 D2 ?_;refine tr 1 61 n10 D2 ?_;refine tr 2 62 (pT (some ⟨P,13,none⟩)) D2 ?_;refine tr 3 63 (.map (some c)) D2 ?_ (hy:=fun W h=>by obtain⟨⟨k0,k1,k2,k3,k4,k5,k6,k7,k8,k9⟩,k10,k11,k12,k13⟩:=(BX W h).1.jZ;go_simp);have n3:Nv (pT (nb u)):=⟨⟩;refine tr 4 64 n3 D2 ?_;refine tr 5 65 n3 D2 ?_;refine tr 6 66 n3 D2 ?_;have n7:Nv (pT (some ⟨q,u*10,none⟩)):=⟨⟩;refine tr 7 67 n7 D2 ?_ (hy:=fun W h=>by have y:=((BX W h).2.2.1 u ul).1;go_simp);refine tr 8 68 n7 D2 ?_;refine tr 9 69 n7 D2 ?_;refine tr 10 70 (.int .i64 (Aa lo u).id) D2 ?_ (hy:=fun W h=>by have y:=((BX W h).2.2.2 u ul).c0;go_simp);refine Cd (i:=11) (j:=12) kR rfl rfl ?_ ?_
     ·intro K hK;refine Ay qK 62 _ _ _ qK EB _ _ qK qK (some 71) qK _ (PB _ D2) ?_;rintro v w5 ⟨a,k,rfl,o5,b5⟩;have V5:=qC (Af D2 b5);have O5:=qC o5;refine hK _ _ (fun _=>V5) ?_;clear hK K o5 b5;simp only[ap,qF];refine Ac (i:=12) kR rfl ?_;intro K hK;go_simp;have V6:=qC (Af V5 (Bg w5 (qG #[qV none 0 0] 51)));refine hK _ _ (fun _=>V6) ?_;clear hK K;try simp only[ap,qF]
      refine oO 13 ?_;try simp only[Act.put]
      refine Ai kR ?_ _;go_wp2_with fail
      go_meet;case rel=>
       have b6:=Bg w5 (qG #[qV a (Ci lo u).length k] 51);exact⟨w5,a,k,rfl,Ag.new w5 _,AI.base (own_below O5 b6) D2.out.size,Af V5 b6,V5.out.size⟩
     ·intro K hK;have n5:No (qG #[qV none 0 0] 51):=⟨⟩;have V5:=qC (D2.out.alloc D2.out.size n5);have ZV:Hid (Ag (w4.alloc n5).drew w4 n5):=qC (Ag.new w4 _);go_simp;refine hK _ _ (fun _=>V5) ?_;clear hK K;try simp only[ap,qF]
      refine Ac (i:=11) kR rfl ?_;intro K hK;refine Ay qK 62 _ _ _ qK EB _ _ qK qK (some 71) qK _ (PB _ V5) ?_;rintro v w6 ⟨a,k,rfl,o6,b6⟩;have V6:=qC (Af V5 b6);have O6:=qC o6;have Z6:=qC (ZV.out.below b6);refine hK _ _ (fun _=>V6) ?_;clear hK K o6 b6;simp only[ap,qF];have z0:w6.cell? ⟨w4,0,none⟩=some (qV none 0 0):=(by have h:=Z6.out;unfold Ag at h;simp[xW,h]);have zf:=Z6.out.jC;refine oO 13 ?_;try simp only[Act.put]
      refine Ai kR ?_ _;go_wp2_with fail
      go_meet;case rel=>
       have gs:=Au (w:=w6) (w1:=w6) (q:=w4.heap.size) ⟨rfl,rfl,rfl,Nat.le_refl _,fun _ _ _=>rfl⟩ 0 (qV a (Ci lo u).length k);exact⟨w4,a,k,rfl,Z6.out.jB (i:=0) _,AI.base (qq.kept O6 gs (.inr (fun e=>absurd (qq.lt O6 w4 e).1 sI))) V5.out.size,V6.out.setCell (p:=⟨w4,0,none⟩) V1.out.size _,V1.out.size⟩
    case rest=>
     obtain⟨vb,a,k,rfl,BV,OG,hb,hvb⟩:=hcut;generalize wc=w6 at *;have BV':=qC BV;have OG':=qC OG;have A6:=qC hb;clear BV OG hb;have V6:=VV.out.below A6.out;have ql:q<w.heap.size:=(VV.out.h.st.jF ul (Cx VV.out.ok)).2;have vc:w6.cell? ⟨vb,0,none⟩=some (qV a (Ci lo u).length k):=(by have h:=BV'.out;unfold Ag at h;simp[xW,h]);have on:=Er VV.out.ok;have ogl:(Ci lo u).length<=maxLen:=qj (Dj OG').1 (Dj OG').2;have DF:=qC (Uy B q co vb lo ⟨a,(Ci lo u).length,k,AZ (Ci lo u)⟩ w6 V6.h.st.o qQ vc BV'.out.lt qQ (fun W hW=>(AI.new (qq.kept OG' hW (.inr (fun e=>by have h:=(qq.lt OG' q e).1;omega))) ogl).1));have H6:=qC V6.h;obtain⟨⟨k0,k1,k2,k3,k4,k5,k6,k7,k8,k9⟩,k10,k11,k12,k13⟩:=V6.h.wk.jZ;clear V6 vc;go_wp2_with fail
     refine DF.out.mono ?_;rintro e w7 ⟨rfl,o7,g7⟩;obtain⟨K7,kk⟩:=H6.out.st.subO o7 g7 (fun x hx=>(List.mem_filter.1 hx).1);have BP:=H6.out.wk.grown g7 (fun e=>H6.out.setQ (jV.inj e));obtain⟨⟨j0,j1,j2,j3,j4,j5,j6,j7,j8,j9⟩,j10,j11,j12,j13⟩:=BP.jZ;have pf:=BP.jC;have AP7:=qC (H6.out.ap.subO (l':=GN ⟨a,(Ci lo u).length,k,AZ (Ci lo u)⟩ lo) List.filter_sublist);have KF:=qC K7;have BP':=qC BP;have hBq:B<=q:=(qq.lt H6.out.st.o q rfl).1;have B7:Hid (Below B w w7):=qC ((A6.out.mono VV.out.hB).trans (below_grown g7 (qj VV.out.hB A6.out.size) (fun j e=>by have:=jV.inj e;omega)));have lp:=H6.out.lp;clear K7 kk BP o7 g7 k0 k1 k2 k3 k4 k5 k6 k7 k8 k9 k10 k11 k12 k13;go_wp2;go_ret;refine⟨_,rfl,.yes (B7.out.setCell (p:=⟨P,11,none⟩) lp _) ⟨(KF.out.setW BP' _).f,AP7,BP'.out.jB (i:=11) _⟩ (.drop HK rfl rfl (.inr ⟨rfl,DB,u,HF,by omega,?_⟩))⟩;unfold Fa GN;rw[List.take_of_length_le nr]
end
def Tryz.sortFA_ren:Go.Shelf.Ren:=⟨fun|6=>171|15=>132|14=>199|28=>160|29=>161|20=>209|21=>210|22=>211|23=>212|24=>213|25=>214|26=>215|27=>216|46=>229|47=>190|48=>191|49=>230|50=>231|57=>241|n=>n,fun|22=>25|24=>59|25=>239|3=>3|39=>123|0=>0|53=>80|55=>77|4=>4|46=>225|45=>224|50=>230|5=>5|9=>9|66=>258|70=>261|76=>273|77=>274|n=>n,fun|n=>n⟩
theorem Tryz.sortFA:Go.Proofs.SlLaysF0.n6 prog Tryz.sortFA_ren:={
 mixed:=by kernel_rfl
 f6:=⟨Tryz.f171.name,by decide,func171.trans (congrArg some (by kernel_rfl))⟩
 f14:=⟨Tryz.f199.name,by decide,func199.trans (congrArg some (by kernel_rfl))⟩
 f15:=func132.trans (congrArg some (by kernel_rfl))
 f20:=⟨Tryz.f209.name,by decide,func209.trans (congrArg some (by kernel_rfl))⟩
 f21:=⟨Tryz.f210.name,by decide,func210.trans (congrArg some (by kernel_rfl))⟩
 f22:=⟨Tryz.f211.name,by decide,func211.trans (congrArg some (by kernel_rfl))⟩
 f23:=⟨Tryz.f212.name,by decide,func212.trans (congrArg some (by kernel_rfl))⟩
 f24:=⟨Tryz.f213.name,by decide,func213.trans (congrArg some (by kernel_rfl))⟩
 f25:=⟨Tryz.f214.name,by decide,func214.trans (congrArg some (by kernel_rfl))⟩
 f26:=⟨Tryz.f215.name,by decide,func215.trans (congrArg some (by kernel_rfl))⟩
 f27:=⟨Tryz.f216.name,by decide,func216.trans (congrArg some (by kernel_rfl))⟩
 f28:=func160.trans (congrArg some (by kernel_rfl))
 f29:=func161.trans (congrArg some (by kernel_rfl))
 f46:=⟨Tryz.f229.name,by decide,func229.trans (congrArg some (by kernel_rfl))⟩
 f47:=func190.trans (congrArg some (by kernel_rfl))
 f48:=func191.trans (congrArg some (by kernel_rfl))
 f49:=⟨Tryz.f230.name,by decide,func230.trans (congrArg some (by kernel_rfl))⟩
 f50:=⟨Tryz.f231.name,by decide,func231.trans (congrArg some (by kernel_rfl))⟩
 f57:=⟨Tryz.f241.name,by decide,func241.trans (congrArg some (by kernel_rfl))⟩
 t0:=underlying0
 a0:=isAgg0
 z0:=sizeOf0
 v0:=zeroValue0
 t3:=underlying3
 a3:=isAgg3
 z3:=sizeOf3
 v3:=zeroValue3
 t4:=underlying4
 a4:=isAgg4
 z4:=sizeOf4
 v4:=zeroValue4
 t5:=underlying5
 a5:=isAgg5
 z5:=sizeOf5
 v5:=zeroValue5
 t9:=underlying9
 a9:=isAgg9
 z9:=sizeOf9
 v9:=zeroValue9
 t22:=underlying25
 a22:=isAgg25
 z22:=sizeOf25
 v22:=zeroValue25
 t25:=underlying239
 a25:=isAgg239
 z25:=sizeOf239
 v25:=zeroValue239
 t39:=underlying123
 a39:=isAgg123
 z39:=sizeOf123
 v39:=zeroValue123
 t45:=underlying224
 a45:=isAgg224
 z45:=sizeOf224
 v45:=zeroValue224
 t46:=underlying225
 a46:=isAgg225
 z46:=sizeOf225
 v46:=zeroValue225
 t50:=underlying230
 a50:=isAgg230
 z50:=sizeOf230
 v50:=zeroValue230
 t53:=underlying80
 a53:=isAgg80
 z53:=sizeOf80
 v53:=zeroValue80
 t55:=underlying77
 a55:=isAgg77
 z55:=sizeOf77
 v55:=zeroValue77
 t66:=underlying258
 a66:=isAgg258
 z66:=sizeOf258
 v66:=zeroValue258
 t70:=underlying261
 a70:=isAgg261
 z70:=sizeOf261
 v70:=zeroValue261
 t76:=underlying273
 a76:=isAgg273
 z76:=sizeOf273
 v76:=zeroValue273
 t77:=underlying274
 a77:=isAgg274
 z77:=sizeOf274
 v77:=zeroValue274}
open Go.Sort
open _root_.Array renaming getElem?_toList→xv,getElem?_modify→kY
open _root_.List renaming getElem?_eq_none→kC
instance objInh:Inhabited Ab:=⟨Ab.z⟩
def UZ(x y:Int):Int:=if x<y then-1 else if y<x then 1 else 0
theorem Kg(x:Int)(w:World):Calls prog 194 #[.int .i64 x] w fun e w'=>e= .returned (.bool false)/\w'=w:=by
 go_enter func194,ntmps194
 go_wp2;go_ret;exact⟨by simp,rfl⟩
theorem TA(x y:Int)(w:World):Calls prog 173 #[.int .i64 x,.int .i64 y] w fun e w'=>e= .returned (.int .i64 (UZ x y))/\w'=w:=by
 unfold UZ;by_cases h1:x<y
 ·rw[if_pos h1];go_enter func173,ntmps173
  go_wp2_with fail
  refine(Kg x w).mono ?_;rintro e w1 ⟨rfl,rfl⟩;go_wp2_with fail
  refine(Kg y _).mono ?_;rintro e w1 ⟨rfl,rfl⟩;go_wp2;go_ret;exact⟨rfl,rfl⟩
 ·rw[if_neg h1];by_cases h2:y<x
  ·rw[if_pos h2];go_enter func173,ntmps173
   go_wp2_with fail
   refine(Kg x w).mono ?_;rintro e w1 ⟨rfl,rfl⟩;go_wp2_with fail
   refine(Kg y _).mono ?_;rintro e w1 ⟨rfl,rfl⟩;go_wp2;go_ret;exact⟨rfl,rfl⟩
  ·rw[if_neg h2];go_enter func173,ntmps173
   go_wp2_with fail
   refine(Kg x w).mono ?_;rintro e w1 ⟨rfl,rfl⟩;go_wp2_with fail
   refine(Kg y _).mono ?_;rintro e w1 ⟨rfl,rfl⟩;go_wp2;go_ret;exact⟨rfl,rfl⟩
theorem av(w:World)(A B:Obj):(w.alloc A).alloc B=grow (w.drewN 0) #[A,B]:=by
 have e:w.heap++#[A,B]=(w.heap.push A).push B:=by
  show w.heap++(#[].push A).push B=_;rw[Array.append_push,Array.append_push,Array.append_empty]
 show _={w.drewN 0 with heap:=w.heap++#[A,B]};rw[e];rfl
theorem Y8(x y:Ab)(w:World):Calls prog 172 #[.agg x.cs.toArray,.agg y.cs.toArray] w fun e w'=>e= .returned (.int .i64 (UZ x.id y.id))/\∃q os',w'=grow (w.drewN q) os':=by
 unfold Ab.cs As.val AJ.val AE.val;go_enter func172,ntmps172
 go_wp2_with fail
 refine(TA x.id y.id _).mono ?_;rintro e w1 ⟨rfl,rfl⟩;go_wp2;go_ret;refine⟨rfl,0,_,av _ _ _⟩
theorem WT:∀(l:List Ab) (t:Nat),t<l.length*10->(Ax l)[t]? =some ((l[t/10]!).cs[t%10]!)
 |[],t,h=>by simp at h
 |x::r,t,h=>by
  have e:Ax (x::r)=x.cs++Ax r:=by simp[Ax]
  rw[e];by_cases h1:t<10
  ·rw[List.getElem?_append_left (by rw[Ab.jK];exact h1),Nat.div_eq_of_lt h1,Nat.mod_eq_of_lt h1];have h2:t<x.cs.length:=(by rw[Ab.jK];exact h1);simp[h2,getElem!_pos]
  ·rw[List.getElem?_append_right (by rw[Ab.jK];omega),Ab.jK,WT r (t-10) (by simp at h;omega)];have h2:t/10=(t-10)/10+1:=qQ;have h3:t%10=(t-10)%10:=qQ;rw[h2,h3];simp
theorem MZ(l:List Ab):(flatK Ab.cs 10 l.toArray).toList=Ax l:=by
 refine List.ext_getElem? (fun t=>?_);by_cases h:t<l.length*10
 ·rw[WT l t h];have hs:t<(flatK Ab.cs 10 l.toArray).size:=by simp;exact h
  rw[xv,Array.getElem?_eq_getElem hs];have:=get_flatK Ab.cs 10 l.toArray t (by simpa using h);rw[getElem!_pos _ t hs]at this;rw[this];simp
 ·rw[kC sO,kC (by rw[GV];omega)]
theorem dK:SWO (ltOf fun x y:Ab=>UZ x.id y.id):=by
 have e:∀x y:Ab,ltOf (fun x y:Ab=>UZ x.id y.id) x y=decide (x.id<y.id):=fun x y=>by
  unfold ltOf UZ;dsimp only;by_cases h:x.id<y.id
  ·simp[h]
  ·by_cases h2:y.id<x.id<;>simp[h,h2]
 refine⟨fun x=>by rw[e];simp,fun x y z h1 h2=>?_,fun x y z h1 h2=>?_⟩
 ·rw[e]at *;simp at *;omega
 ·rw[e]at *;simp at *;omega
theorem bB(cur:Array Value)(F:Array Value)(h:F.size<=cur.size):(putCells id 0 F cur).toList.take F.size=F.toList:=by
 apply List.ext_getElem?;intro j;by_cases hj:j<F.size
 ·rw[List.getElem?_take_of_lt hj,xv];simp[putCells,hj,show j<cur.size by omega]
 ·rw[List.getElem?_take_eq_none qQ,kC sO]
theorem eR:∀(x:Ab),∀v∈x.cs,v.oneCell'=true:=fun x v hv=>Nh (l:=[x]) v (by simp[Ax];exact hv)
theorem YE(B q co:Nat)(l:List Ab)(w:World)(h:AW w B (.slice q l.length co) l)(hn:l.length<=1048576)(h0:0<l.length):
 Calls prog 171 #[.slice q l.length co,.func (.func 172) #[] #[]] w fun e w'=>e= .returned (.tuple #[])/\∃l',l'.Perm l/\l'.Pairwise (fun a b=>¬b.id<a.id)/\AW w' B (.slice q l'.length co) l'/\w.grownBy w' (some q):=by
 have hc:=h;rcases hc.2 with⟨hv,_⟩|⟨g',cap,cur,hv,hB,hgg,h1,h2,h3,h4⟩
 ·cases hv
 cases hv;have HK:HoldsK Ab.cs 10 w q 0 l.toArray:=fun j hj=>by
  have hj':j<l.length*10:=by simpa using hj
  have hcur:j<cur.size:=by rw[h3];omega
  have e1:cur.toList[j]? =(Ax l)[j]?:=by rw[<-h4,List.getElem?_take_of_lt hj']
  rw[<-MZ,xv,xv,Array.getElem?_eq_getElem hj]at e1;refine⟨?_,by simp[World.frozen?,hgg]⟩;rw[Nat.zero_add];simp only[World.cell?,hgg];rw[getElem!_pos (flatK Ab.cs 10 l.toArray) j hj];simpa using e1
 have ql:q<w.heap.size:=(World.ownsRow.lt h q rfl).2;have S:=AnyQ.slices_SortFunc Tryz.sortFA 10 isAgg59 sizeOf59 Ab.cs Ab.jK eR (fun x y:Ab=>UZ x.id y.id) dK 172 #[] q 0 co l.toArray w (enters_of func172 kR rfl) (fun m os dk _ x y=>Y8 x y _) HK ql sO;have S':Calls prog 171 #[.slice q l.toArray.size co,.func (.func 172) #[] #[]] w _:=S;rw[show l.toArray.size=l.length from by simp]at S';refine S'.mono ?_;rintro e w' ⟨rfl,d',n,os,hp,hs,rfl⟩;obtain⟨hsz,_,hperm⟩:=hp;have hsz':d'.size=l.length:=by simpa using hsz
 have pm:d'.toList.Perm l:=by
  have e1:(d'.extract 0 l.length).toList=d'.toList:=by rw[<-hsz'];simp
  have e2:(l.toArray.extract 0 l.length).toList=l:=by simp
  rw[e1,e2]at hperm;exact hperm
 have ln:d'.toList.length=l.length:=by simpa using hsz'
 have hk:(sortWorldK Ab.cs 10 w q 0 n d' os).heap[q]? =some (.cells (putCells id 0 (flatK Ab.cs 10 d') cur) 59 (0,0)):=by
  unfold sortWorldK grow putRowK putRow mapBlock Sort.ahead;rw[Array.getElem?_append_left (by simpa using ql)];simp[kY,hgg,onCells]
 have fs:(flatK Ab.cs 10 d').size<=cur.size:=by rw[size_flatK,hsz',h3];exact Nat.mul_le_mul_right _ h1
 refine⟨rfl,d'.toList,pm,?_,?_,?_⟩
 ·rw[List.pairwise_iff_getElem];intro i j hi hj hij;have:=hs i j (Nat.zero_le _) hij (by simpa using(by omega:j<l.length));have hi':i<d'.size:=by omega
  have hj':j<d'.size:=by omega
  rw[getElem!_pos d' j hj',getElem!_pos d' i hi']at this;unfold ltOf UZ at this;simp only[decide_eq_false_iff_not]at this;intro hlt;have hlt':d'[j].id<d'[i].id:=by simpa using hlt
  rw[if_pos hlt']at this;omega
 ·refine⟨by rw[GV],.inr ⟨q,co,_,rfl,hB,hk,by rw[ln];exact h1,h2,by simp[putCells,h3],?_⟩⟩;have:=bB cur (flatK Ab.cs 10 d') fs;rw[size_flatK,show d'.size=d'.toList.length from by simp]at this;rw[this];have:=MZ d'.toList;simpa using this
 ·refine⟨rfl,rfl,rfl,by simp[sortWorldK,grow,putRowK,putRow,mapBlock,Sort.ahead],fun k hk' hne=>?_⟩;have:q≠k:=fun e=>hne (by rw[e]);unfold sortWorldK grow putRowK putRow mapBlock Sort.ahead;rw[Array.getElem?_append_left (by simpa using hk')];simp[kY,this]
open _root_.List renaming mem_cons_self→kV,pairwise_cons→xK,mem_cons→kK,mem_cons_of_mem→xV
variable {o:Ab}{lo l':List Ab}{lt:List Ae}
theorem Tr{o2:Ab}(h:o.same o2):∀lo,Jm (Bs o lo) (Bs o2 lo)
 |[]=>⟨rfl,fun j hj=>by
  have e:j=0:=by simp[Bs]at hj;omega
  subst e;exact h⟩
 |x::r=>by
  have ih:=Tr h r;have e:o2.id=o.id:=h.1;by_cases hx:o.id<x.id
  ·have a:Bs o (x::r)=o::x::r:=(by simp[Bs,hx]);have b:Bs o2 (x::r)=o2::x::r:=(by simp[Bs,e,hx]);rw[a,b];refine⟨rfl,fun j hj=>?_⟩;cases j with
   |zero=>exact h
   |succ j=>exact Ab.same.refl _
  ·have a:Bs o (x::r)=x::Bs o r:=(by simp[Bs,hx]);have b:Bs o2 (x::r)=x::Bs o2 r:=(by simp[Bs,e,hx]);rw[a,b];refine⟨by simp[ih.1],fun j hj=>?_⟩;cases j with
   |zero=>exact Ab.same.refl _
   |succ j=>exact ih.2 j (by simpa using hj)
theorem Q9:∀{l m:List Ab},l.Pairwise (fun a b=>a.id<b.id)->m.Pairwise (fun a b=>a.id<b.id)->(∀x,x∈l↔x∈m)->l=m
 |[],[],_,_,_=>rfl
 |[],b::m,_,_,h=>by have:=(h b).2 kV;cases this
 |a::l,[],_,_,h=>by have:=(h a).1 kV;cases this
 |a::l,b::m,h1,h2,h=>by
  obtain⟨a1,a2⟩:=xK.1 h1;obtain⟨b1,b2⟩:=xK.1 h2;have e:a=b:=by
   rcases kK.1 ((h a).1 kV)with e|e
   ·exact e
   ·rcases kK.1 ((h b).2 kV)with e'|e'
    ·exact e'.symm
    ·have:=a1 b e';have:=b1 a e;omega
  subst e;congr 1;refine Q9 a2 b2 (fun x=>?_);constructor
  ·intro hx;rcases kK.1 ((h x).1 (xV _ hx))with e|e
   ·subst e;have:=a1 x hx;omega
   ·exact e
  ·intro hx;rcases kK.1 ((h x).2 (xV _ hx))with e|e
   ·subst e;have:=b1 x hx;omega
   ·exact e
theorem Tg(o:Ab)(lo:List Ab):(Bs o lo).Perm (lo++[o]):=by
 obtain⟨p,_,e,_⟩:=Ky o lo;rw[e];refine List.perm_middle.trans ?_;rw[List.take_append_drop];exact(List.perm_append_singleton o lo).symm
theorem aN(hr:lo.Pairwise (fun a b=>a.id<b.id))(hn:∀x∈lo,x.id≠o.id):(Bs o lo).Pairwise (fun a b=>a.id<b.id):=by
 induction lo with
 |nil=>simp[Bs]
 |cons x r ih=>
  obtain⟨h1,h2⟩:=xK.1 hr;have ne:=hn x kV;by_cases hx:o.id<x.id
  ·have a:Bs o (x::r)=o::x::r:=(by simp[Bs,hx]);rw[a,xK];refine⟨fun y hy=>?_,hr⟩;rcases kK.1 hy with rfl|hy
   ·exact hx
   ·have:=h1 y hy;omega
  ·have a:Bs o (x::r)=x::Bs o r:=(by simp[Bs,hx]);rw[a,xK];refine⟨fun y hy=>?_,ih h2 (fun y hy=>hn y (xV _ hy))⟩;rcases LG hy with rfl|hy
   ·omega
   ·exact h1 y hy
theorem WB(hr:lo.Pairwise (fun a b=>a.id<b.id))(hn:∀x∈lo,x.id≠o.id)(hp:l'.Perm (lo++[o]))(hs:l'.Pairwise (fun a b=>¬b.id<a.id)):l'=Bs o lo:=by
 have ri:=aN hr hn;have nd:l'.Pairwise (fun a b=>a.id≠b.id):=((hp.trans (Tg o lo).symm).pairwise_iff (fun h e=>h e.symm)).2 (ri.imp (fun h=>by omega));refine Q9 ((hs.and nd).imp (fun⟨h1,h2⟩=>by omega)) ri (fun x=>?_);exact(hp.trans (Tg o lo).symm).mem_iff
theorem Apart.permO{l:List Ab}(h:Apart lt l)(hp:l'.Perm l):Apart lt l':=
 ⟨((hp.map _).flatten.append_left _).nodup_iff.2 h.c,((hp.map _).flatten.append_left _).nodup_iff.2 h.i,(hp.map _).flatten.nodup_iff.2 h.s⟩
theorem aD(ok:okL lt lo=true):lo.Pairwise (fun a b=>a.id<b.id):=by
 rw[List.pairwise_iff_getElem];intro i j hi hj hij;have h:(Aa lo i).id<(Aa lo j).id:=(BU.1 ok).rise i j hij hj;rw[AL hi,AL hj]at h;exact h
theorem new_ne(ok:okL lt lo=true){t:Nat}(ht:t<lt.length):∀x∈lo,x.id≠Aw lt[t]:=fun x hx e=>by
 obtain⟨j,hj,rfl⟩:=List.getElem_of_mem hx;have kk:=BU.1 ok;have X:=FK ok _ (List.getElem_mem ht);have i:=X.id;have m:=X.made;have nc:Aw lt[t]=1000*lt[t].id+lt[t].made+1:=rfl;have e':(Aa lo j).id=Aw lt[t]:=by rw[AL hj];exact e
 by_cases h0:j=0
 ·subst h0;have:=(GU ok).2.1;omega
 ·obtain⟨t',h1,h2,h3,h4⟩:=FX kk.thr (kk.num j qQ hj);have g1:(Be lt t').id=(Aa lo j).id/1000:=h2;have g2:(Aa lo j).id%1000<=(Be lt t').made:=h4;have g3:(Be lt t).id=lt[t].id:=by rw[Ey ht]
  have e3:t'=t:=(Tt kk.thr).inj h1 ht (by show(Be lt t').id=(Be lt t).id;rw[g1,g3,e'];omega);subst e3;rw[Ey ht,e']at g2;omega
theorem Td.lowB{B:Nat}{w w':World}(h:Td w)(hb:Below B w w')(hB:18<=B):Td w':=by
 obtain⟨g,hg⟩:=Tryz.tabNamed;have hl:g<18:=by
  have:(prog.globalNamed "internal/strconv.uint64pow10").all (fun g=>decide (g<18))=true:=by kernel_rfl
  rw[hg]at this;simpa using this
 unfold Td Lib.TabIs at *;exact var?_below (hb.mono (show g+1<=B by omega)) hg (Nat.lt_succ_self g) h
theorem Tn(w:World)(B P:Nat)(s:Aj)(g ca q co:Nat)(lt:List Ae)(lo:List Ab)(t:Nat)(m:Value)(h:Fg w B P s g ca q co lt lo t m)(ht:t<lt.length)(X:Ae)(hX:X=lt[t])(hi:1<=X.id/\X.id<=1000000)(hm:0<=X.made/\X.made<=1000000):
 Calls prog 166 #[.pointer P] w fun e w'=>∃v,e= .returned v/\(v= iT qH (Aw X)/\Fg w' B P s g ca q co (lt.set t ⟨X.id,X.b1,X.c1,X.b2,X.c2,X.own,X.made+1⟩) lo t m/\Below B w w'/\w.grownBy w' (some g)):=by
 obtain⟨CW,gl⟩:=h.st.jJ ht;rw[<-hX]at CW;have q0:w.cell? ⟨g,t*7,none⟩=some (iT qH X.id):=CW.c0;have q6:w.cell? ⟨g,t*7+6,none⟩=some (iT qH X.made):=CW.c6;obtain⟨_,_,_,c12,_⟩:=h.wk.jZ;obtain⟨S1,hg,cur,hcu⟩:=h.setMade (n:=X.made+1) ht hX;have ne:=h.setP;have gf:=hcu.jC;obtain⟨_,_,_,d12,_⟩:=S1.wk.jZ;have el:(lt.set t (⟨X.id,X.b1,X.c1,X.b2,X.c2,X.own,X.made+1⟩:Ae)).length=lt.length:=by simp
 obtain⟨CV,_⟩:=S1.st.jJ (t:=t) (by rw[el];exact ht);have eg:(lt.set t (⟨X.id,X.b1,X.c1,X.b2,X.c2,X.own,X.made+1⟩:Ae))[t]'(by rw[el];exact ht)=⟨X.id,X.b1,X.c1,X.b2,X.c2,X.own,X.made+1⟩:=by simp
 rw[eg]at CV;have r0:(w.setCell ⟨g,t*7+6,none⟩ (iT qH (X.made+1))).cell? ⟨g,t*7,none⟩=some (iT qH X.id):=CV.c0;have r6:(w.setCell ⟨g,t*7+6,none⟩ (iT qH (X.made+1))).cell? ⟨g,t*7+6,none⟩=some (iT qH (X.made+1)):=CV.c6;have w1_:IntKind.i64.wrap (1000*X.id)=1000*X.id:=by rw[IntKind.wrap_i64];omega
 have w3_:IntKind.i64.wrap (1000*X.id+(X.made+1))=1000*X.id+(X.made+1):=by rw[IntKind.wrap_i64];omega
 have w4_:IntKind.i64.wrap (X.made+1)=X.made+1:=by rw[IntKind.wrap_i64];omega
 have NC:Hid (Value.int .i64 (1000*X.id+(X.made+1))= iT qH (Aw X)):=qC (congrArg _ (by unfold Aw;omega));have S:=qC S1;have BL:=qC (show Below B w (w.setCell ⟨g,t*7+6,none⟩ (iT qH (X.made+1))) from(Below.refl B w).setCell hg _);have GR:=qC (Au (w:=w) (w1:=w) (q:=g) ⟨rfl,rfl,rfl,Nat.le_refl _,fun _ _ _=>rfl⟩ (t*7+6) (iT qH (X.made+1)));have n1:¬P=g:=ne.1;have n2:¬g=P:=Ne.symm ne.1;clear h CW CV S1 el eg hX ne;go_enter func166,ntmps166
 go_wp2_with fail
 have e0:(w.setCell ⟨g,t*7+6,none⟩ (iT qH (X.made+1))).drew.cell? ⟨g,t*7,none⟩=some (iT qH X.id):=r0;have e6:(w.setCell ⟨g,t*7+6,none⟩ (iT qH (X.made+1))).drew.cell? ⟨g,t*7+6,none⟩=some (iT qH (X.made+1)):=r6;have e12:(w.setCell ⟨g,t*7+6,none⟩ (iT qH (X.made+1))).drew.cell? ⟨P,12,none⟩=some (.pointer (some ⟨g,t*7,none⟩)):=d12;clear r0 r6 d12;have SD:=qC (S.out.below (Below.refl _ _).drew);have BD:=qC (show Below B w (w.setCell ⟨g,t*7+6,none⟩ (iT qH (X.made+1))).drew from BL.out.drew);have GD:=qC (FM GR (Below.refl _ _).drew);go_region_law fail
 all_goals(
  go_wp2;go_ret;exact⟨_,rfl,NC,SD,BD,GD⟩)
end Go.Proofs.YtdaccbddcjlkpaaGreatDoor
