import Derived.Test.YteoihknaljgocaaGreatDoorZ10m
namespace Go.Proofs.YteoihknaljgocaaGreatDoor
open Go Go.RowKit Go.Deep Go.Maps Go.BigFrame Go.Shelf Go.Proofs.Tryz
variable {lo:List Ab}{w:World}{B ca co:Nat}{ta oa:Option Addr}{lt:List Ae}
theorem Cr{P:Program}{ops:Array Oper}{Q:Exit->Act->World->Prop}{md:Region.Mode}{S:World->Prop}{m:Nat}{i j:Nat}{o o':Oper}{fuel:Nat}{listed:Array Bool}{a:Act}{w:World}(hr:Region.ready md ops listed=[i,j])(ho:ops[i]? =some o)(ho':ops[j]? =some o')
 (h:∀K':Act->World->Prop,Shut (∀a w,((listed.setIfInBounds i true).getD m false=false->S w)->Ck P md ops Q S m fuel (listed.setIfInBounds i true) a w->K' a w)->if Region.wanted o (yielded ops a.tmps)=true then Oper.wp P o a w K' Q else K' (a.put o.dst undef) w)
 (h':∀K':Act->World->Prop,Shut (∀a w,((listed.setIfInBounds j true).getD m false=false->S w)->Ck P md ops Q S m fuel (listed.setIfInBounds j true) a w->K' a w)->if Region.wanted o' (yielded ops a.tmps)=true then Oper.wp P o' a w K' Q else K' (a.put o'.dst undef) w):
 Ck P md ops Q S m (fuel+1) listed a w:=
 ⟨fun h0=>(by rw[hr]at h0;cases h0),fun k hk=>by
   rw[hr]at hk;rcases List.mem_cons.1 hk with rfl|hk
   ·exact wpOp_step ho (fun K' hK=>h K' (fun a w hS hW=>hK a w ⟨hS,hW⟩))
   ·obtain rfl:=List.mem_singleton.1 hk;exact wpOp_step ho' (fun K' hK=>h' K' (fun a w hS hW=>hK a w ⟨hS,hW⟩))⟩
theorem Ej{f:Nat}{a:Array Value}{W:World}{v:Value}{R:World->Prop}(h:Calls prog f a W fun e w'=>e= .returned v/\R w'):Calls prog f a W fun e w'=>∃x,e= .returned x/\(x=v/\R w'):=h.mono fun _ _ ⟨e1,h1⟩=>⟨_,e1,rfl,h1⟩
def Gz(X:Ae)(b:Int)(c:Ar):Bool:=Cx b c.n c.f c.g X.own.n X.own.h X.b1 X.c1.n X.c1.f X.c1.g
def Ap(X:Ae)(b:Int)(c:Ar):Bool:=Gz X b c&&Cx X.b1 X.c1.n X.c1.f X.c1.g X.own.n X.own.h b c.n c.f c.g
theorem ZZ(X:Ae)(b:Int)(c:Ar)(W:World)(hX:X.at W)(xs:X.small)(r1:Fo X.c1)(hc:c.at W)(hn:c.n<=1048576)(rc:Fo c):
 Calls prog 110 #[.agg X,.agg #[.int .i64 b,c]] W fun e w'=>e= .returned (.bool (Gz X b c))/\Below W W w':=
 MZ X.id X.made X.b1 X.c1.a X.c1.n X.c1.k X.c1.f X.c1.g X.b2 X.c2.a X.c2.n X.c2.k X.c2.f X.c2.g X.own.a X.own.n X.own.k X.own.h b c.a c.n c.k c.f c.g W hX.1.1 hX.2.1.1 hX.2.2.1 hX.1.2 hX.2.1.2 hX.2.2.2 hc.1 hc.2 xs.1 hn r1 rc
theorem GO(X:Ae)(b:Int)(c:Ar)(W:World)(hX:X.at W)(xs:X.small)(r1:Fo X.c1)(hc:c.at W)(hn:c.n<=1048576)(rc:Fo c):
 Calls prog 106 #[.agg X,.agg #[.int .i64 b,c]] W fun e w'=>e= .returned (.bool (Ap X b c))/\Below W W w':=
 Oq X.id X.made X.b1 X.c1.a X.c1.n X.c1.k X.c1.f X.c1.g X.b2 X.c2.a X.c2.n X.c2.k X.c2.f X.c2.g X.own.a X.own.n X.own.k X.own.h b c.a c.n c.k c.f c.g W hX.1.1 hX.2.1.1 hX.2.2.1 hX.1.2 hX.2.1.2 hX.2.2.2 hc.1 hc.2 xs.1 hn r1 rc
def CY(b:Int)(c:Ar)(o:AJ)(b':Int)(c':Ar):Bool:=Cx b c.n c.f c.g o.n o.h b' c'.n c'.f c'.g
theorem QU(b:Int)(c:Ar)(o:AJ)(b':Int)(c':Ar)(W:World)(hc:c.at W)(ho:o.at W)(hc':c'.at W)(n1:c.n<=1048576)(n2:c'.n<=1048576)(r1:Fo c)(r2:Fo c'):
 Calls prog 103 #[.agg #[.int .i64 b,c],o,.agg #[.int .i64 b',c']] W fun e w'=>e= .returned (.bool (CY b c o b' c'))/\Below W W w':=
 Gr _ _ _ _ c.f c.g _ _ _ o.h _ _ _ _ c'.f c'.g W n1 n2 ho.1 hc.2 hc'.2 ho.2 r1 r2
theorem ZB(o:AJ)(x:Int)(W:World)(ho:o.at W):
 Calls prog 105 #[o,.int .i64 x] W fun e w'=>e= .returned (.bool (hasB o.n o.h x))/\w'=W:=JK _ _ _ o.h x W ho.1 ho.2
def Gl(lo:List Ab)(x:Int):Option Nat:=Bg (fun i=>(Aa lo i).id) lo.length x
def Qn(lt:List Ae)(x:Int):Option Nat:=Bg (fun i=>(Ao lt i).id) lt.length x
theorem Gq{x:Int}{u:Nat}(h:Gl lo x=some u):∃hu:u<lo.length,(lo[u]'hu).id=x:=by
 obtain⟨h1,h2⟩:=Av h;refine⟨h1,?_⟩;have e1:Aa lo u=lo[u]:=by simp[Aa,h1]
 rw[<-e1];exact h2
theorem Nn(h:BJ w B (.slice ta lt.length ca) (.slice oa lo.length co) lt lo)(h1:lt.length<=1048576)(h2:lo.length<=1048576)(h3:∀x∈lo,x.data.size<=maxLen)(x:Int):
 Calls prog 55 #[.agg #[.slice ta lt.length ca,.slice oa lo.length co],.int .i64 x] w fun e w'=>e= .returned (.int .i64 (Gf (Gl lo x)))/\Below w w w':=J0 (Bo ta ca oa co lt lo) x w (h.at h1 h2 h3)
theorem au(ta:Option Addr)(ca:Nat)(oa:Option Addr)(co:Nat)(lt:List Ae)(lo:List Ab):(Bo ta ca oa co lt lo).oL lo.length=lo:=by
 refine List.ext_getElem (by simp[Aw.oL]) fun i h1 h2=>?_;simp[Aw.oL,Bo,Aa,h2]
theorem bE(h:BJ w B (.slice ta lt.length ca) (.slice oa lo.length co) lt lo)(h1:lt.length<=1048576)(h2:lo.length<=1048000)(h3:∀x∈lo,x.data.size<=maxLen)(o:Ab):
 Calls prog 107 #[.agg #[.slice ta lt.length ca,.slice oa lo.length co],.agg o] w fun e w'=>∃(ob:Option Addr) (cb:Nat),e= .returned (.agg #[.slice ta lt.length ca,.slice ob (Bn o lo).length cb])/\AO w' w (.slice ob (Bn o lo).length cb) (Bn o lo)/\Below w w w':=by
 have:=Wd (Bo ta ca oa co lt lo) o w (h.at h1 (by omega) h3) h2;have e:(Bo ta ca oa co lt lo).oL (Bo ta ca oa co lt lo).on=lo:=au ta ca oa co lt lo;rw[e]at this;exact this
def FU(X:Ae)(s:Al)(lo:List Ab):Bool:=
 match Gl lo s.id with
 |none=>false
 |some u=>decide ((Aa lo u).kind=3)&&Ap X (Aa lo u).b1 (Aa lo u).c1&&CY X.b1 X.c1 X.own s.b1 s.c1&&CY s.b1 s.c1 X.own X.b2 X.c2&&(!decide (0<s.cat)||hasB X.own.n X.own.h s.cat)
theorem N6(base:Int)(a:Option Addr)(n cap:Nat)(w:World)(hn:n<=maxLen):
 Calls prog 100 #[.agg #[.int .i64 base,.slice a n cap]] w fun e w'=>e= .returned (.bool (Dz base n))/\Below w w w':=by
 unfold maxLen at hn;have hb0:=Bf w (.cells #[.int .i64 base,.slice a n cap] 30);cases t:(base==0)with
 |true=>
  go_enter func100,ntmps100
  go_wp2;go_ret;refine⟨Ah ?_,hb0⟩;unfold Dz;rw[t,Bool.true_and];by_cases e:n=0
  ·subst e;rfl
  ·have e1:(n==0)=false:=(by simpa using e);rw[e1];simp;omega
 |false=>
  go_enter func100,ntmps100
  go_wp2;go_ret;exact⟨Ah (by simp[Dz,t]),hb0⟩
def JZ(d:ByteArray):Bool:=d.toList.isEmpty
def Fg(ok ui ut uc ud ul ue:Bool)(th kind id to' cat:Int)(d:ByteArray)(lo zl co zc:Bool):Bool:=
 ok&&Ei th 1 9&&lo&&(ul||zl)&&co&&(ue||zc)&&BI d 40&&(ud||JZ d)&&Mt id ui&&Mt to' ut&&M8 kind cat uc
def Hw(th kind id to' cat:Int)(d:ByteArray)(bl:Int)(nl:Nat)(fl gl:Nat->Int)(bc:Int)(nc:Nat)(fc gc:Nat->Int):Bool:=
 Fg (aM kind) (aO kind) (aQ kind) (Sa kind) (Qc kind) (LV kind) (Jl kind) th kind id to' cat d (Bb bl nl fl gl) (Dz bl nl) (Bb bc nc fc gc) (Dz bc nc)
def okL(lt:List Ae)(lo:List Ab):Bool:=Bj (Bo none 0 none 0 lt lo)
theorem Cy{lt:List Ae}{i:Nat}(h:i<lt.length):Ao lt i=lt[i]:=by simp[Ao,h]
theorem Az{lo:List Ab}{i:Nat}(h:i<lo.length):Aa lo i=lo[i]:=by simp[Aa,h]
theorem BH{b:Int}{c:Ar}(h:Bb b c.n c.f c.g=true):Fo c/\c.n<=12:=by
 unfold Bb at h;simp only[Bool.and_eq_true,decide_eq_true_eq,List.all_eq_true,List.mem_range]at h;obtain⟨⟨_,hn⟩,ha⟩:=h;refine⟨?_,hn⟩;intro j hj;induction j with
 |zero=>intro i hi;omega
 |succ j ih=>
  intro i hi;have h1:=ha (j+1) hj;unfold Dr at h1;simp only[Bool.and_eq_true,Bool.or_eq_true,decide_eq_true_eq,beq_iff_eq]at h1;have h2:c.f j<c.f (j+1):=by
   rcases h1.2 with e|e
   ·omega
   ·simpa using e
  by_cases e:i=j
  ·subst e;exact h2
  ·have:=ih (by omega) i (by omega);omega
structure JO(x:Ae):Prop where
 id:1<=x.id/\x.id<=9
 l1:Bb x.b1 x.c1.n x.c1.f x.c1.g=true
 l2:Bb x.b2 x.c2.n x.c2.f x.c2.g=true
 own:Ci x.own.n x.own.h=true
 made:0<=x.made/\x.made<=30
theorem Gw{x:Ae}:Ds x=true↔JO x:=by
 unfold Ds DO;simp only[Bool.and_eq_true,Ep];exact⟨fun⟨⟨⟨⟨a,b⟩,c⟩,d⟩,e⟩=>⟨a,b,c,d,e⟩,fun h=>⟨⟨⟨⟨h.id,h.l1⟩,h.l2⟩,h.own⟩,h.made⟩⟩
theorem Jb{n:Nat}{h:Nat->Int}(e:Ci n h=true):n<=10:=by
 unfold Ci at e;simp only[Bool.and_eq_true,decide_eq_true_eq]at e;exact e.1
theorem JO.small{x:Ae}(h:JO x):x.small:=⟨by have:=(BH h.l1).2;omega,by have:=(BH h.l2).2;omega,by have:=Jb h.own;omega⟩
structure MA(x:Ab):Prop where
 l1:Bb x.b1 x.c1.n x.c1.f x.c1.g=true
 l2:Bb x.b2 x.c2.n x.c2.f x.c2.g=true
 own:Ci x.own.n x.own.h=true
 data:BI x.data 40=true
 jA:Ey x.jA.n x.jA.f=true
 kind:Hl x=true
theorem Jt{x:Ab}:CS x=true↔MA x:=by
 unfold CS;simp only[Bool.and_eq_true];exact⟨fun⟨⟨⟨⟨⟨a,b⟩,c⟩,d⟩,e⟩,f⟩=>⟨a,b,c,d,e,f⟩,fun h=>⟨⟨⟨⟨⟨h.l1,h.l2⟩,h.own⟩,h.data⟩,h.jA⟩,h.kind⟩⟩
theorem Gc{d:ByteArray}(h:BI d 40=true):d.size<=40:=by
 unfold BI at h;simp only[Bool.and_eq_true,decide_eq_true_eq]at h;omega
section
variable {lt:List Ae}{lo:List Ab} (ok:okL lt lo=true)
include ok
theorem FE:1<=lt.length/\lt.length<=9:=by
 have h:=Dn (Bm ok).1;exact⟨h.1,h.2.1⟩
theorem Ek:1<=lo.length/\lo.length<=271:=by
 have h:=BZ (Bm ok).2.1;exact⟨h.1,h.2.1⟩
theorem Ef:∀x∈lt,JO x:=fun x hx=>by
 obtain⟨i,hi,e⟩:=List.mem_iff_getElem.1 hx;have h:=(Dn (Bm ok).1).2.2 i hi;unfold Et at h;simp only[Bool.and_eq_true]at h;have e2:(Bo none 0 none 0 lt lo).T i=x:=(Cy hi).trans e;rw[e2]at h;exact Gw.1 h.1
theorem Ed:∀x∈lo,MA x:=fun x hx=>by
 obtain⟨i,hi,e⟩:=List.mem_iff_getElem.1 hx;have h:=(BZ (Bm ok).2.1).2.2.1 i hi;unfold FY at h;simp only[Bool.and_eq_true]at h;have e2:(Bo none 0 none 0 lt lo).O i=x:=(Az hi).trans e;rw[e2]at h;exact Jt.1 h.1
theorem Hv:∀x∈lo,0<=x.id/\x.id<=1000000:=fun x hx=>by
 obtain⟨i,hi,e⟩:=List.mem_iff_getElem.1 hx;have k:=Bt.1 ok;have e2:(Bo none 0 none 0 lt lo).O i=x:=(Az hi).trans e;by_cases h0:i=0
 ·subst h0;have r:=k.root;rw[e2]at r;unfold FJ at r;simp only[Bool.and_eq_true,beq_iff_eq]at r;omega
 ·have h:=k.num i (by omega) hi;rw[e2]at h;obtain⟨t,h1,h2,h3,h4⟩:=EJ k.thr h;have e3:(Bo none 0 none 0 lt lo).T t=lt[t]:=Cy h1;rw[e3]at h2 h4;have f:=Ef ok _ (List.getElem_mem h1);have:=f.id;have:=f.made;omega
theorem Cm:∀x∈lo,x.data.size<=maxLen:=fun x hx=>by
 have:=Gc (Ed ok x hx).data;unfold maxLen;omega
theorem Lg:∀x∈lo,x.jA.n<=8/\∀i,i<x.jA.n->BI (x.jA.f i) 40=true:=fun x hx=>by
 have h:=(Ed ok x hx).jA;unfold Ey at h;simp only[Bool.and_eq_true,decide_eq_true_eq,List.all_eq_true,List.mem_range]at h;exact⟨by omega,h.2⟩
end
def Al.ok(s:Al):Bool:=Hw s.th s.kind s.id s.to s.cat s.data s.b1 s.c1.n s.c1.f s.c1.g s.b2 s.c2.n s.c2.f s.c2.g
structure US(s:Al):Prop where
 kind:1<=s.kind/\s.kind<=15
 l1:Bb s.b1 s.c1.n s.c1.f s.c1.g=true
 l2:Bb s.b2 s.c2.n s.c2.f s.c2.g=true
 data:BI s.data 40=true
 cat:M8 s.kind s.cat (Sa s.kind)=true
 id:Mt s.id (aO s.kind)=true
theorem GB{s:Al}(h:s.ok=true):US s:=by
 unfold Al.ok Hw Fg at h;simp only[Bool.and_eq_true]at h;obtain⟨⟨⟨⟨⟨⟨⟨⟨⟨⟨a,b⟩,c⟩,d⟩,e⟩,f⟩,g⟩,i⟩,j⟩,k⟩,l⟩:=h;refine⟨?_,c,e,g,l,j⟩;unfold aM at a;simp only[Bool.or_eq_true,beq_iff_eq]at a;omega
structure WI(lt:List Ae)(lo:List Ab):Prop where
 tn:1<=lt.length/\lt.length<=9
 on:1<=lo.length/\lo.length<=271
 data:∀x∈lo,x.data.size<=maxLen
 id:∀x∈lo,0<=x.id/\x.id<=1000000
 thr:∀x∈lt,Ci x.own.n x.own.h=true/\Bb x.b1 x.c1.n x.c1.f x.c1.g=true
theorem WI.of{lt:List Ae}{lo:List Ab}(h:okL lt lo=true):WI lt lo:=⟨FE h,Ek h,Cm h,Hv h,fun x hx=>⟨(Ef h x hx).own,(Ef h x hx).l1⟩⟩
end Go.Proofs.YteoihknaljgocaaGreatDoor
