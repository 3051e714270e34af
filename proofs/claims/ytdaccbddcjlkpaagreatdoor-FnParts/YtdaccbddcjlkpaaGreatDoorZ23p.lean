import Derived.Maps.OwnOps
import Derived.BigRegion
import Derived.Deep.RegionHeld
import Derived.Test.YtdaccbddcjlkpaaGreatDoorZ22p
set_option maxRecDepth 100000
set_option maxHeartbeats 2000000
namespace Go.Proofs.YtdaccbddcjlkpaaGreatDoor
open Go Go.RowKit Go.Deep Go.Maps
open _root_.List renaming getElem_mem→qk,range→qx,mem_range→jM
open _root_.Bool renaming and_eq_true→qz
section
variable {n t:Nat}{X:Ae}{lt lt':List Ae}{L:List Int}{h:Nat->Int}{c:Int}{s:Aj}{lo lo':List Ab}{tx:ByteArray}{o:Ab}
def OJ{b:Int}{c d:As}(h:c.same d)(hl:Bb b c.n c.f c.g=true):Bb b d.n d.f d.g=true:=by
 obtain⟨h1,h2,h3⟩:=h;rw[h1,h2,h3];exact hl
def Tt{T:Nat->Ae}(h:BH n T=true):DK (fun i=>(T i).id) n:=Lt fun i i0 hi=>by
 have:=(CZ h).2.2 i hi;unfold Ej at this;simp only[qz,Bool.or_eq_true,decide_eq_true_eq,beq_iff_eq]at this;rcases this.2 with e|e
 ·omega
 ·exact e
def XQ(h:Pe X):1001<=Aw X/\Aw X<=9999:=by
 have:=h.id;have:=h.made;unfold Aw;omega
def Wp(ht:t<lt.length):lt.set t lt[t]=lt:=FE ht
def cz(h:Pe X)(hn:¬X.own.n=10)(e:L=Eh ((qx X.own.n).map X.own.h) (Aw X)):Cf L.length (AZ L)=true:=by
 obtain⟨h1,h2,h3⟩:=Hw.1 h.own;subst e;refine OX ?_ (J8 h2) (fun x hx=>?_)
 ·have:=Lu ((qx X.own.n).map X.own.h) (Aw X);simp at this;omega
 ·rcases OF hx with hx|hx
  ·exact h3 x hx
  ·have:=XQ h;omega
def aW{x:Int}(hx:x∈Dm h c n):x∈(qx n).map h:=(List.mem_filter.1 hx).1
def YP(ho:Cf n h=true):Cf (Dm h c n).length (AZ (Dm h c n))=true:=by
 obtain⟨h1,h2,h3⟩:=Hw.1 ho;refine OX ?_ (h2.filter _) (fun x hx=>h3 x (aW hx));have:=MN h c n;omega
theorem Vh:∀{q:Nat}{x:Int},x∈Ed L h q->x∈L∨∃i,i<q/\x=h i
 |0,x,hx=> .inl hx
 |q+1,x,hx=>by
  rcases OF hx with hx|hx
  ·rcases Vh hx with hx|⟨i,hi,e⟩
   ·exact .inl hx
   ·exact .inr ⟨i,by omega,e⟩
  ·exact .inr ⟨q,by omega,hx⟩
theorem Oc(hL:L.Pairwise (· <·)):∀q,(Ed L h q).Pairwise (· <·)
 |0=>hL
 |q+1=>J8 (Oc hL q)
def Nq:By ⟨#[]⟩ 40=true:=by decide
def Yu(sf:Xd s){d1 d2:As}{ow:AJ}(hk:s.kind=2∨s.kind=3∨s.kind=4∨s.kind=5)(e1:s.c1.same d1)(e2:if s.kind=5 then s.c2.same d2 else d2=Ao)(e3:if 0<s.cat then ow.n=1/\ow.h 0=s.cat else ow=Fx):NY (newObj X s d1 d2 ow):=by
 have hw:Cf ow.n ow.h=true:=by
  by_cases h:0<s.cat
  ·rw[if_pos h]at e3;have hc:=sf.cat;have e:(s.cat==0)=false:=(by simp only[beq_eq_false_iff_ne,ne_eq];omega);unfold Pt at hc;rw[e]at hc;simp only[Bool.false_eq_true,if_false,qz,CY]at hc;rw[e3.1];simp[Cf,Ef,e3.2,Ev];omega
  ·rw[if_neg h]at e3;rw[e3];rfl
 have h2:Bb (newObj X s d1 d2 ow).b2 d2.n d2.f d2.g=true:=by
  unfold newObj;by_cases h:s.kind=5
  ·rw[if_pos h]at e2;simp only[if_pos h];exact OJ e2 sf.l2
  ·rw[if_neg h]at e2;simp only[if_neg h];rw[e2];rfl
 refine⟨OJ e1 sf.l1,h2,hw,Nq,rfl,?_⟩;have ce:=Jf sf;have noCat:s.kind≠5->ow=Fx:=fun h=>by
  have:=ce.1 qQ;rw[if_neg qQ]at e3;exact e3
 unfold newObj Hp;rcases hk with h|h|h|h
 ·have e4:=noCat qQ;rw[if_neg qQ]at e2;subst e2;subst e4;simp[h,DV,Ao,Fx]
 ·have e4:=noCat qQ;rw[if_neg qQ]at e2;subst e2;subst e4;simp[h,DV,Ao,Fx]
 ·have e4:=noCat qQ;rw[if_neg qQ]at e2;subst e2;subst e4;simp[h,DV,Ao,Fx]
 ·simp[h]
def ZH(ok:okL lt lo=true)(ht:t<lt.length)(so:s.ok=true)(hk:s.kind=2∨s.kind=3∨s.kind=4∨s.kind=5)(p:YZ lt[t] s lt lo t c tx lt' lo'):okL lt' lo'=true:=by
 rcases p with⟨_,_,_,rfl,rfl⟩|⟨_,_,_,_,rfl,rfl⟩|⟨_,mb,m30,_,rfl,d1,d2,ow,e1,e2,e3,rfl⟩
 ·exact ok
 ·exact ok
 ·have X:=FK ok _ (qk ht);have m1:=X.made;have i1:=X.id;have ok1:=JP ok ht (x:=⟨lt[t].id,lt[t].b1,lt[t].c1,lt[t].b2,lt[t].c2,lt[t].own,lt[t].made+1⟩) ⟨X.id,X.l1,X.l2,X.own,by dsimp only;omega⟩ rfl qJ;unfold Gg at mb;cases hu:Hq lo s.id with
  |none=>rw[hu]at mb;cases mb
  |some u=>
   rw[hu]at mb;simp only[qz,decide_eq_true_eq]at mb;have kk:=BU.1 ok;have k1:=BU.1 ok1;have nc:Aw lt[t]=1000*lt[t].id+lt[t].made+1:=rfl;refine ct ok1 (Yu (Hu so) hk e1 e2 e3) ?_ hu mb.1.1.1.1 (fun j hj=>?_) (by show 1<Aw lt[t];omega)
   ·have et:Be (lt.set t (⟨lt[t].id,lt[t].b1,lt[t].c1,lt[t].b2,lt[t].c2,lt[t].own,lt[t].made+1⟩:Ae)) t=⟨lt[t].id,lt[t].b1,lt[t].c1,lt[t].b2,lt[t].c2,lt[t].own,lt[t].made+1⟩:=by
     have:=Wz (l:=lt) (t:=t) (j:=t) (x:=(⟨lt[t].id,lt[t].b1,lt[t].c1,lt[t].b2,lt[t].c2,lt[t].own,lt[t].made+1⟩:Ae)) (z:=Ae.z) ht;rw[if_pos rfl]at this;exact this
    refine Vl k1.thr (t:=t) (by simpa[Df]using ht) ?_ ?_ ?_
    ·show(Be _ t).id=Aw lt[t]/1000;rw[et];show lt[t].id=Aw lt[t]/1000;omega
    ·show 1<=Aw lt[t]%1000;omega
    ·show Aw lt[t]%1000<=(Be _ t).made;rw[et];show Aw lt[t]%1000<=lt[t].made+1;omega
   ·intro e;have e':(Aa lo j).id=Aw lt[t]:=e;by_cases h0:j=0
    ·subst h0;have:=(GU ok).2.1;omega
    ·obtain⟨t',h1,h2,h3,h4⟩:=FX kk.thr (kk.num j qQ hj);have g1:(Be lt t').id=(Aa lo j).id/1000:=h2;have g2:(Aa lo j).id%1000<=(Be lt t').made:=h4;have g3:(Be lt t).id=lt[t].id:=(by rw[Ey ht]);have e3:t'=t:=(Tt kk.thr).inj h1 ht (by show(Be lt t').id=(Be lt t).id;rw[g1,g3,e'];omega);subst e3;rw[Ey ht,e']at g2;omega
def Xf(f:NY o){d:ByteArray}(h1:o.kind=1)(hd:By d 40=true):NY ⟨o.id,o.kind,o.up,o.b1,o.c1,d,o.jA,o.own,o.b2,o.c2⟩:=by
 refine⟨f.l1,f.l2,f.own,hd,f.jA,?_⟩;have:=f.kind;unfold Hp at this ⊢;simp only[h1,if_true]at this ⊢;exact this
def Ua(f:NY o){d:AE}(h1:o.kind=2)(hd:En d.n d.f=true):NY ⟨o.id,o.kind,o.up,o.b1,o.c1,o.data,d,o.own,o.b2,o.c2⟩:=by
 refine⟨f.l1,f.l2,f.own,f.data,hd,?_⟩;have:=f.kind;unfold Hp at this ⊢;simp only[h1]at this ⊢;exact this
def Kh{f:Nat->ByteArray}:En n f=true↔n<=8/\∀i,i<n->By (f i) 40=true:=by
 unfold En;simp only[qz,decide_eq_true_eq,List.all_eq_true,jM]
def cr(ok:okL lt lo=true)(ht:t<lt.length)(so:s.ok=true)(p:GC lt[t] s lt lo t c tx lt' lo'):okL lt' lo'=true:=by
 have X:=FK ok _ (qk ht);have sf:=Hu so;cases p with
 |k1 h x e1 e2 p=>
  subst e1 e2;rcases p with⟨_,_,rfl,_⟩|⟨_,hn,_,a,cc,rfl⟩
  ·rw[Wp ht];exact ok
  ·have:=X.made;exact JP ok ht ⟨X.id,X.l1,X.l2,cz X (fun e=>hn (.inr e)) rfl,by dsimp only;omega⟩ rfl qJ
 |k12 h x e1 e2 e3 p=>
  subst e1 e2;rcases p with⟨_,_,rfl⟩|⟨_,_,d,sd,rfl⟩
  ·rw[Wp ht];exact ok
  ·exact JP ok ht ⟨X.id,OJ sd sf.l1,X.l2,X.own,X.made⟩ rfl (Int.le_refl _)
 |k14 h x e1 e2 e3 p=>
  subst e1 e2;rcases p with⟨_,_,rfl⟩|⟨_,_,a,cc,rfl⟩
  ·rw[Wp ht];exact ok
  ·exact JP ok ht ⟨X.id,X.l1,X.l2,YP X.own,X.made⟩ rfl (Int.le_refl _)
 |make h p=>exact ZH ok ht so h p
 |drop h e1 e3 p=>
  subst e1;rcases p with⟨_,_,rfl⟩|⟨_,_,u,hu,u0,rfl⟩
  ·exact ok
  ·exact bU ok hu u0
 |k6 h p=>
  rcases p with⟨_,_,_,rfl,rfl⟩|⟨u,hu,⟨_,_,_,rfl,rfl⟩|⟨_,_,_,rfl,rfl⟩⟩
  ·exact ok
  ·exact ok
  ·obtain⟨_,ul,i1,k1,_⟩:=Ew hu;rw[AL ul];exact Md ok ul (Xf (Fs ok _ (qk ul)) k1 sf.data) rfl rfl rfl
 |k7 h p=>
  rcases p with⟨_,_,_,rfl,rfl⟩|⟨u,hu,_,_,rfl,rfl⟩
  ·exact ok
  ·exact ok
 |k8 h p=>
  rcases p with⟨_,_,_,rfl,rfl⟩|⟨u,hu,⟨_,_,_,rfl,rfl⟩|⟨v,hv,⟨_,_,_,rfl,rfl⟩|⟨kv,_,_,_,rfl,rfl⟩⟩⟩
  ·exact ok
  ·exact ok
  ·exact ok
  ·obtain⟨_,ul,_⟩:=Ew hu;obtain⟨vl,_⟩:=Ht hv;rw[AL vl]at kv;rw[AL vl,AL ul];exact Md ok vl (Xf (Fs ok _ (qk vl)) kv (Fs ok _ (qk ul)).data) rfl rfl rfl
 |k9 h p=>
  rcases p with⟨_,_,_,rfl,rfl⟩|⟨u,hu,⟨_,_,_,rfl,rfl⟩|⟨_,_,_,_,rfl,rfl⟩|⟨_,n8,_,_,rfl,a,c',rfl⟩⟩
  ·exact ok
  ·exact ok
  ·exact ok
  ·obtain⟨_,ul,i1,k1,_⟩:=Ew hu;rw[AL ul]at n8 ⊢;have f:=Fs ok _ (qk ul);have it:=Kh.1 f.jA;refine Md ok ul (Ua f k1 (Kh.2 ⟨by dsimp only;omega,fun i hi=>?_⟩)) rfl rfl rfl;dsimp only;unfold Dw;split
   ·rename_i h1;exact it.2 i h1
   ·exact sf.data
 |k10 h p=>
  rcases p with⟨_,_,_,rfl,rfl⟩|⟨u,hu,⟨_,_,_,rfl,rfl⟩|⟨_,_,_,_,rfl,rfl⟩|⟨_,n0,_,_,rfl,a,c',rfl⟩⟩
  ·exact ok
  ·exact ok
  ·exact ok
  ·obtain⟨_,ul,i1,k1,_⟩:=Ew hu;rw[AL ul]at n0 ⊢;have f:=Fs ok _ (qk ul);have it:=Kh.1 f.jA;refine Md ok ul (Ua f k1 (Kh.2 ⟨by dsimp only;omega,fun i hi=>?_⟩)) rfl rfl rfl;dsimp only at hi ⊢;exact it.2 (i+1) qQ
 |k13 h p=>
  rcases p with⟨_,_,_,rfl,rfl⟩|⟨u,hu,⟨_,_,_,rfl,rfl⟩|⟨_,_,_,_,rfl,rfl⟩|⟨_,nb,_,_,a,c',rfl,rfl⟩⟩
  ·exact ok
  ·exact ok
  ·exact ok
  ·obtain⟨_,ul,i1,k1,_⟩:=Ew hu;rw[AL ul]at nb ⊢;have f:=Fs ok _ (qk ul);obtain⟨_,x2,x3⟩:=Hw.1 X.own;obtain⟨_,_,f3⟩:=Hw.1 f.own;refine JP ok ht ⟨X.id,X.l1,X.l2,OX qQ (Oc x2 _) (fun x hx=>?_),X.made⟩ rfl (Int.le_refl _);rcases Vh hx with hx|⟨i,hi,rfl⟩
   ·exact x3 x hx
   ·exact f3 _ (List.mem_map.2 ⟨i,jM.2 hi,rfl⟩)
 |k15 h p=>
  rcases p with⟨_,_,_,rfl,rfl⟩|⟨u,hu,_,_,rfl,rfl⟩
  ·exact ok
  ·exact ok
def IB(ok:okL lt lo=true)(p:Ji lt lo s c tx lt' lo'):okL lt' lo'=true:=by
 cases p with
 |form h hc ht e1 e2=>subst e1 e2;exact ok
 |thread h hn hc ht e1 e2=>subst e1 e2;exact ok
 |act h t ht hn p=>exact cr ok ht h p
end
section
variable {s t:Aj}{lt:List Ae}{lo:List Ab}{c:Int}{tx:ByteArray}{k:Av}
def Aj.same(s t:Aj):Prop:=t.th=s.th/\t.kind=s.kind/\t.id=s.id/\t.to=s.to/\t.cat=s.cat/\t.data=s.data/\t.b1=s.b1/\s.c1.same t.c1/\t.b2=s.b2/\s.c2.same t.c2
def YJ{lt':List Ae}{lo':List Ab}(e:s.same t)(h:Ji lt lo t c tx lt' lo'):Ji lt lo s c tx lt' lo':=by
 obtain⟨s1,s2,s3,s4,s5,s6,s7,⟨sa,sn,sk,sf,sg⟩,s9,⟨ra,rn,rk,rf,rg⟩⟩:=s;obtain⟨t1,t2,t3,t4,t5,t6,t7,⟨ta,tn,tk,tf,tg⟩,t9,⟨ua,un,uk,uf,ug⟩⟩:=t;obtain⟨e1,e2,e3,e4,e5,e6,e7,⟨f1,f2,f3⟩,e9,⟨g1,g2,g3⟩⟩:=e;dsimp only at e1 e2 e3 e4 e5 e6 e7 f1 f2 f3 e9 g1 g2 g3;subst e1 e2 e3 e4 e5 e6 e7 f1 f2 f3 e9 g1 g2 g3;cases h with
 |form a b c d e=>exact .form a b c d e
 |thread a b c d e f=>exact .thread a b c d e f
 |act a t ht hn p=>
  refine .act a t ht hn ?_;cases p with
  |k1 h x e1 e2 p=>exact .k1 h x e1 e2 p
  |k12 h x e1 e2 e3 p=>exact .k12 h x e1 e2 e3 p
  |k14 h x e1 e2 e3 p=>exact .k14 h x e1 e2 e3 p
  |make h p=>exact .make h p
  |drop h e1 e3 p=>exact .drop h e1 e3 p
  |k6 h p=>exact .k6 h p
  |k7 h p=>exact .k7 h p
  |k8 h p=>exact .k8 h p
  |k9 h p=>exact .k9 h p
  |k10 h p=>exact .k10 h p
  |k13 h p=>exact .k13 h p
  |k15 h p=>exact .k15 h p
def Fy(k:Av)(s:Aj)(c:Int)(tx:ByteArray)(lt:List Ae)(lo:List Ab):Prop:=
 (Bh k=false/\c=1/\tx=⟨#[]⟩/\lt=[]/\lo=[])∨
 (Bh k=true/\∃(Ju:List Ae) (Qf:List Ab) (lt2:List Ae) (lo2:List Ab),k.same (Df none 0 none 0 Ju Qf)/\Ni lt lt2/\Jm lo lo2/\Ji Ju Qf s c tx lt2 lo2)
def Fy.of{l:Av}(hk:k.same l)(hs:s.same t)(h:Fy l t c tx lt lo):Fy k s c tx lt lo:=by
 have e:=Cc hk;rcases h with⟨a,b⟩|⟨a,Ju,Qf,lt2,lo2,b,x,y,d⟩
 ·exact .inl ⟨e▸a,b⟩
 ·refine .inr ⟨e▸a,Ju,Qf,lt2,lo2,?_,x,y,YJ hs d⟩;obtain⟨h1,h2,h3,h4⟩:=hk;refine⟨b.1.trans h1,fun j hj=>?_,b.2.2.1.trans h3,fun j hj=>?_⟩
  ·obtain⟨a1,a2,a3,a4,a5,a6,a7⟩:=h2 j hj;obtain⟨b1,b2,b3,b4,b5,b6,b7⟩:=b.2.1 j (by rw[h1];exact hj);exact⟨b1.trans a1,b2.trans a2,⟨b3.1.trans a3.1,b3.2.1.trans a3.2.1,b3.2.2.trans a3.2.2⟩,b4.trans a4,⟨b5.1.trans a5.1,b5.2.1.trans a5.2.1,b5.2.2.trans a5.2.2⟩,⟨b6.1.trans a6.1,b6.2.trans a6.2⟩,b7.trans a7⟩
  ·obtain⟨a1,a2,a3,a4,a5,a6,a7,a8,a9,a10⟩:=h4 j hj;obtain⟨b1,b2,b3,b4,b5,b6,b7,b8,b9,b10⟩:=b.2.2.2 j (by rw[h3];exact hj);exact⟨b1.trans a1,b2.trans a2,b3.trans a3,b4.trans a4,⟨b5.1.trans a5.1,b5.2.1.trans a5.2.1,b5.2.2.trans a5.2.2⟩,b6.trans a6,⟨b7.1.trans a7.1,b7.2.trans a7.2⟩,⟨b8.1.trans a8.1,b8.2.trans a8.2⟩,b9.trans a9,⟨b10.1.trans a10.1,b10.2.1.trans a10.2.1,b10.2.2.trans a10.2.2⟩⟩
def Q6.flip{l m:List Ae}(h:Q6 l m):Q6 m l:=⟨h.1.symm,fun j hj=>by
 obtain⟨a1,a2,a3,a4,a5,a6,a7⟩:=h.2 j (by rw[<-h.1];exact hj);exact⟨a1.symm,a2.symm,⟨a3.1.symm,fun i hi=>⟨(a3.2 i (by rw[<-a3.1];exact hi)).1.symm,(a3.2 i (by rw[<-a3.1];exact hi)).2.symm⟩⟩,a4.symm,⟨a5.1.symm,fun i hi=>⟨(a5.2 i (by rw[<-a5.1];exact hi)).1.symm,(a5.2 i (by rw[<-a5.1];exact hi)).2.symm⟩⟩,⟨a6.1.symm,fun i hi=>(a6.2 i (by rw[<-a6.1];exact hi)).symm⟩,a7.symm⟩⟩
def QI.flip{l m:List Ab}(h:QI l m):QI m l:=⟨h.1.symm,fun j hj=>by
 obtain⟨a1,a2,a3,a4,a5,a6,a7,a8,a9,a10⟩:=h.2 j (by rw[<-h.1];exact hj);exact⟨a1.symm,a2.symm,a3.symm,a4.symm,⟨a5.1.symm,fun i hi=>⟨(a5.2 i (by rw[<-a5.1];exact hi)).1.symm,(a5.2 i (by rw[<-a5.1];exact hi)).2.symm⟩⟩,a6.symm,⟨a7.1.symm,fun i hi=>(a7.2 i (by rw[<-a7.1];exact hi)).symm⟩,⟨a8.1.symm,fun i hi=>(a8.2 i (by rw[<-a8.1];exact hi)).symm⟩,a9.symm,⟨a10.1.symm,fun i hi=>⟨(a10.2 i (by rw[<-a10.1];exact hi)).1.symm,(a10.2 i (by rw[<-a10.1];exact hi)).2.symm⟩⟩⟩⟩
def Tz{c2:Int}{tx2:ByteArray}{lt2:List Ae}{lo2:List Ab}(h:Fy k s c tx lt lo)(h2:Fy k s c2 tx2 lt2 lo2):WW c c2 tx tx2 lt lt2 lo lo2:=by
 rcases h with⟨a,rfl,rfl,rfl,rfl⟩|⟨a,x1,x2,x3,x4,x5,x6,x7,x8⟩<;>rcases h2 with⟨b,rfl,rfl,rfl,rfl⟩|⟨b,y1,y2,y3,y4,y5,y6,y7,y8⟩
 ·exact Bn
 ·rw[a]at b;cases b
 ·rw[a]at b;cases b
 ·obtain⟨z1,z2,z3,z4⟩:=Wj x5 y5 x8 y8;exact⟨z1,z2,(Q6.after y6 (Q6.after x6 z3).flip).flip,(QI.after y7 (QI.after x7 z4).flip).flip⟩
def Fy.okL(h:Fy k s c tx lt lo):(lt=[]/\lo=[])∨okL lt lo=true:=by
 rcases h with⟨_,_,_,e1,e2⟩|⟨a,Ju,Qf,lt2,lo2,b,x,y,d⟩
 ·exact .inl ⟨e1,e2⟩
 ·have o0:Go.Proofs.YtdaccbddcjlkpaaGreatDoor.okL Ju Qf=true:=(Cc b).trans a;have o2:=IB o0 d;exact .inr ((Cc (k:=Df none 0 none 0 lt lo) (l:=Df none 0 none 0 lt2 lo2) ⟨x.1,x.2,y.1,y.2⟩).symm.trans o2)
def fZ(k:Av)(s:Aj)(w:World)(e:Ending)(w':World):Prop:=
 ∃(lt:List Ae) (lo:List Ab) (ta oa:Option Addr) (ca co:Nat) (c:Int) (tx:ByteArray),e= .returned (.tuple #[.agg #[.slice ta lt.length ca,.slice oa lo.length co],.int .i64 c,.string tx])/\Ho w' w (.slice ta lt.length ca) (.slice oa lo.length co) lt lo/\Apart lt lo/\Fy k s c tx lt lo/\Below w w w'
def aQ(w:World)(B:Nat):Ho w B (.slice none 0 0) (.slice none 0 0) [] []:=
 ⟨⟨rfl,.inl ⟨rfl,rfl⟩⟩,⟨rfl,.inl ⟨rfl,rfl⟩⟩,fun x hx=>(by cases hx),fun x hx=>(by cases hx)⟩
def au.ans{w w':World}{e:Ending}(h:au k s w e w'):fZ k s w e w':=by
 obtain⟨b,kv,c,tx,rfl,⟨n,rfl,rfl,rfl⟩|⟨ok,lt,lo,lt',lt2,lo',lo2,ta,oa,ca,co,sm,rfl,ks,ap,x,y,d⟩⟩:=h
 ·exact⟨[],[],none,none,0,0,1,⟨#[]⟩,rfl,aQ _ _,.nil,.inl ⟨n,rfl,rfl,rfl,rfl⟩,b⟩
 ·exact⟨lt',lo',ta,oa,ca,co,c,tx,rfl,ks,ap,.inr ⟨ok,lt,lo,lt2,lo2,sm,x,y,d⟩,b⟩
end
section
variable (X:Ae) (s:Aj) (lt:List Ae) (lo:List Ab) (t:Nat)
def Mx:Prop:=∃(c:Int) (tx:ByteArray) (lt':List Ae) (lo':List Ab),GC X s lt lo t c tx lt' lo'
def fv(hk:s.kind=1):Mx X s lt lo t:=by
 by_cases h:X.made=30∨X.own.n=10
 ·exact⟨5,_,_,_,.k1 hk X rfl rfl (.inl ⟨rfl,h,rfl,rfl⟩)⟩
 ·exact⟨0,_,_,_,.k1 hk _ rfl rfl (.inr ⟨rfl,h,rfl,none,0,rfl⟩)⟩
def cI(hk:s.kind=12):Mx X s lt lo t:=by
 cases h:Iu X s with
 |false=>exact⟨4,_,_,_,.k12 hk X rfl rfl rfl (.inl ⟨rfl,h,rfl⟩)⟩
 |true=>exact⟨0,_,_,_,.k12 hk _ rfl rfl rfl (.inr ⟨rfl,h,s.c1,⟨rfl,rfl,rfl⟩,rfl⟩)⟩
def cy(hk:s.kind=14):Mx X s lt lo t:=by
 cases h:hasB X.own.n X.own.h s.cat with
 |false=>exact⟨4,_,_,_,.k14 hk X rfl rfl rfl (.inl ⟨rfl,h,rfl⟩)⟩
 |true=>exact⟨0,_,_,_,.k14 hk _ rfl rfl rfl (.inr ⟨rfl,h,none,0,rfl⟩)⟩
def eI(hk:s.kind=2∨s.kind=3∨s.kind=4∨s.kind=5):Mx X s lt lo t:=by
 cases h:Gg X s lo with
 |false=>exact⟨4,_,_,_,.make hk (.inl ⟨rfl,h,rfl,rfl,rfl⟩)⟩
 |true=>
  by_cases h3:X.made=30
  ·exact⟨5,_,_,_,.make hk (.inr (.inl ⟨rfl,h,h3,rfl,rfl,rfl⟩))⟩
  ·refine⟨0,_,_,_,.make hk (.inr (.inr ⟨rfl,h,h3,rfl,rfl,s.c1,if s.kind=5 then s.c2 else Ao,if 0<s.cat then⟨none,1,0,fun _=>s.cat⟩else Fx,⟨rfl,rfl,rfl⟩,?_,?_,rfl⟩))⟩
   ·by_cases h5:s.kind=5
    ·rw[if_pos h5,if_pos h5];exact⟨rfl,rfl,rfl⟩
    ·rw[if_neg h5,if_neg h5]
   ·by_cases h5:0<s.cat
    ·rw[if_pos h5,if_pos h5];exact⟨rfl,rfl⟩
    ·rw[if_neg h5,if_neg h5]
def eC(hk:s.kind=11):Mx X s lt lo t:=by
 cases h:Hj X lo s.id with
 |false=>exact⟨4,_,_,_,.drop hk rfl rfl (.inl ⟨rfl,h,rfl⟩)⟩
 |true=>
  have h':=h;unfold Hj at h';cases hu:Hq lo s.id with
  |none=>rw[hu]at h';cases h'
  |some u=>
   rw[hu]at h';simp only[qz,decide_eq_true_eq]at h';exact⟨0,_,_,_,.drop hk rfl rfl (.inr ⟨rfl,h,u,hu,h'.1,rfl⟩)⟩
def eZ(hk:s.kind=6):Mx X s lt lo t:=by
 cases h:BF X lo s.id 1 with
 |none=>exact⟨4,_,_,_,.k6 hk (.inl ⟨h,rfl,rfl,rfl,rfl⟩)⟩
 |some u=>
  cases hc:Ap X (Aa lo u).b1 (Aa lo u).c1 with
  |false=>exact⟨4,_,_,_,.k6 hk (.inr ⟨u,h,.inl ⟨hc,rfl,rfl,rfl,rfl⟩⟩)⟩
  |true=>exact⟨0,_,_,_,.k6 hk (.inr ⟨u,h,.inr ⟨hc,rfl,rfl,rfl,rfl⟩⟩)⟩
def eB(hk:s.kind=7):Mx X s lt lo t:=by
 cases h:BF X lo s.id 1 with
 |none=>exact⟨4,_,_,_,.k7 hk (.inl ⟨h,rfl,rfl,rfl,rfl⟩)⟩
 |some u=>exact⟨0,_,_,_,.k7 hk (.inr ⟨u,h,rfl,rfl,rfl,rfl⟩)⟩
def eE(hk:s.kind=8):Mx X s lt lo t:=by
 cases h:BF X lo s.id 1 with
 |none=>exact⟨4,_,_,_,.k8 hk (.inl ⟨h,rfl,rfl,rfl,rfl⟩)⟩
 |some u=>
  cases hp:Hq lo s.to with
  |none=>exact⟨4,_,_,_,.k8 hk (.inr ⟨u,h,.inl ⟨hp,rfl,rfl,rfl,rfl⟩⟩)⟩
  |some p=>
   by_cases h1:(Aa lo p).kind=1
   ·cases hc:Ap X (Aa lo p).b1 (Aa lo p).c1 with
    |false=>exact⟨4,_,_,_,.k8 hk (.inr ⟨u,h,.inr ⟨p,hp,.inl ⟨.inr hc,rfl,rfl,rfl,rfl⟩⟩⟩)⟩
    |true=>exact⟨0,_,_,_,.k8 hk (.inr ⟨u,h,.inr ⟨p,hp,.inr ⟨h1,hc,rfl,rfl,rfl,rfl⟩⟩⟩)⟩
   ·exact⟨4,_,_,_,.k8 hk (.inr ⟨u,h,.inr ⟨p,hp,.inl ⟨.inl h1,rfl,rfl,rfl,rfl⟩⟩⟩)⟩
def eG(hk:s.kind=9):Mx X s lt lo t:=by
 cases h:BF X lo s.id 2 with
 |none=>exact⟨4,_,_,_,.k9 hk (.inl ⟨h,rfl,rfl,rfl,rfl⟩)⟩
 |some u=>
  cases hc:Ap X (Aa lo u).b1 (Aa lo u).c1 with
  |false=>exact⟨4,_,_,_,.k9 hk (.inr ⟨u,h,.inl ⟨hc,rfl,rfl,rfl,rfl⟩⟩)⟩
  |true=>
   by_cases h8:(Aa lo u).jA.n=8
   ·exact⟨5,_,_,_,.k9 hk (.inr ⟨u,h,.inr (.inl ⟨hc,h8,rfl,rfl,rfl,rfl⟩)⟩)⟩
   ·exact⟨0,_,_,_,.k9 hk (.inr ⟨u,h,.inr (.inr ⟨hc,h8,rfl,rfl,rfl,none,0,rfl⟩)⟩)⟩
def bI(hk:s.kind=10):Mx X s lt lo t:=by
 cases h:BF X lo s.id 2 with
 |none=>exact⟨4,_,_,_,.k10 hk (.inl ⟨h,rfl,rfl,rfl,rfl⟩)⟩
 |some u=>
  cases hc:Ap X (Aa lo u).b1 (Aa lo u).c1 with
  |false=>exact⟨4,_,_,_,.k10 hk (.inr ⟨u,h,.inl ⟨hc,rfl,rfl,rfl,rfl⟩⟩)⟩
  |true=>
   by_cases h8:(Aa lo u).jA.n=0
   ·exact⟨6,_,_,_,.k10 hk (.inr ⟨u,h,.inr (.inl ⟨hc,h8,rfl,rfl,rfl,rfl⟩)⟩)⟩
   ·exact⟨0,_,_,_,.k10 hk (.inr ⟨u,h,.inr (.inr ⟨hc,h8,rfl,rfl,rfl,none,0,rfl⟩)⟩)⟩
def bf(hk:s.kind=13):Mx X s lt lo t:=by
 cases h:BF X lo s.id 4 with
 |none=>exact⟨4,_,_,_,.k13 hk (.inl ⟨h,rfl,rfl,rfl,rfl⟩)⟩
 |some u=>
  cases hc:El X.b1 X.c1 X.own (Aa lo u).b2 (Aa lo u).c2 with
  |false=>exact⟨4,_,_,_,.k13 hk (.inr ⟨u,h,.inl ⟨hc,rfl,rfl,rfl,rfl⟩⟩)⟩
  |true=>
   by_cases h8:10<(Ed ((List.range X.own.n).map X.own.h) (Aa lo u).own.h (Aa lo u).own.n).length
   ·exact⟨5,_,_,_,.k13 hk (.inr ⟨u,h,.inr (.inl ⟨hc,h8,rfl,rfl,rfl,rfl⟩)⟩)⟩
   ·exact⟨0,_,_,_,.k13 hk (.inr ⟨u,h,.inr (.inr ⟨hc,h8,rfl,rfl,none,0,rfl,rfl⟩)⟩)⟩
def cd(hk:s.kind=15):Mx X s lt lo t:=by
 cases h:BF X lo s.id 3 with
 |none=>exact⟨4,_,_,_,.k15 hk (.inl ⟨h,rfl,rfl,rfl,rfl⟩)⟩
 |some u=>exact⟨0,_,_,_,.k15 hk (.inr ⟨u,h,rfl,rfl,rfl,rfl⟩)⟩
end
def VF{X:Ae}{s:Aj}{lt:List Ae}{lo:List Ab}{t:Nat}(hk:1<=s.kind/\s.kind<=15):Mx X s lt lo t:=by
 have:s.kind=1∨(s.kind=2∨s.kind=3∨s.kind=4∨s.kind=5)∨s.kind=6∨s.kind=7∨s.kind=8∨s.kind=9∨s.kind=10∨s.kind=11∨s.kind=12∨s.kind=13∨s.kind=14∨s.kind=15:=by omega
 rcases this with h|h|h|h|h|h|h|h|h|h|h|h
 ·exact fv _ _ _ _ _ h
 ·exact eI _ _ _ _ _ h
 ·exact eZ _ _ _ _ _ h
 ·exact eB _ _ _ _ _ h
 ·exact eE _ _ _ _ _ h
 ·exact eG _ _ _ _ _ h
 ·exact bI _ _ _ _ _ h
 ·exact eC _ _ _ _ _ h
 ·exact cI _ _ _ _ _ h
 ·exact bf _ _ _ _ _ h
 ·exact cy _ _ _ _ _ h
 ·exact cd _ _ _ _ _ h
def VG{s:Aj}(h:s.ok=true):1<=s.kind/\s.kind<=15:=by
 unfold Aj.ok Hi Fj at h;simp only[qz]at h;have u:=h.1.1.1.1.1.1.1.1.1.1;unfold dw at u;simp at u;omega
def Ur(lt:List Ae)(lo:List Ab)(s:Aj):∃(c:Int) (tx:ByteArray) (lt':List Ae) (lo':List Ab),Ji lt lo s c tx lt' lo':=by
 cases h:s.ok with
 |false=>exact⟨2,_,_,_,.form h rfl rfl rfl rfl⟩
 |true=>
  cases ht:Us lt s.th with
  |none=>exact⟨3,_,_,_,.thread h ht rfl rfl rfl rfl⟩
  |some t=>
   have hl:t<lt.length:=(AH ht).1;obtain⟨c,tx,lt',lo',p⟩:=VF (X:=lt[t]) (s:=s) (lt:=lt) (lo:=lo) (t:=t) (VG h);exact⟨c,tx,lt',lo',.act h t hl ht p⟩
def Vi(k:Av):k.same k:=⟨rfl,fun _ _=>⟨rfl,rfl,⟨rfl,rfl,rfl⟩,rfl,⟨rfl,rfl,rfl⟩,⟨rfl,rfl⟩,rfl⟩,rfl,fun _ _=>⟨rfl,rfl,rfl,rfl,⟨rfl,rfl,rfl⟩,rfl,⟨rfl,rfl⟩,⟨rfl,rfl⟩,rfl,⟨rfl,rfl,rfl⟩⟩⟩
def Oz(l:List Ae):Ni l l:=⟨rfl,fun _ _=>⟨rfl,rfl,⟨rfl,rfl,rfl⟩,rfl,⟨rfl,rfl,rfl⟩,⟨rfl,rfl⟩,rfl⟩⟩
def P6(l:List Ab):Jm l l:=⟨rfl,fun _ _=>⟨rfl,rfl,rfl,rfl,⟨rfl,rfl,rfl⟩,rfl,⟨rfl,rfl⟩,⟨rfl,rfl⟩,rfl,⟨rfl,rfl,rfl⟩⟩⟩
abbrev kL(T:List Ae)(O:List Ab):Av:=Df none 0 none 0 T O
def Sp{T:List Ae}{O:List Ab}(ok:okL T O=true)(s:Aj):∃(c:Int) (tx:ByteArray) (T':List Ae) (O':List Ab),Fy (kL T O) s c tx T' O'/\okL T' O'=true:=by
 obtain⟨c,tx,T',O',d⟩:=Ur T O s;exact⟨c,tx,T',O',.inr ⟨ok,T,O,T',O',Vi _,Oz _,P6 _,d⟩,IB ok d⟩
inductive La(S:Nat->Aj):Nat->List Ae->List Ab->List (Int×ByteArray)->List Ae->List Ab->Prop
 |nil (T:List Ae) (O:List Ab):La S 0 T O [] T O
 |more {n:Nat}{T T1 T2:List Ae}{O O1 O2:List Ab}{ans:List (Int×ByteArray)}{c:Int}{tx:ByteArray} (h:La S n T O ans T1 O1) (r:Fy (kL T1 O1) (S n) c tx T2 O2) (ok:okL T2 O2=true):La S (n+1) T O (ans++[(c,tx)]) T2 O2
theorem Lb{T:List Ae}{O:List Ab}(S:Nat->Aj)(ok:okL T O=true):∀n,∃(ans:List (Int×ByteArray)) (T':List Ae) (O':List Ab),La S n T O ans T' O'/\okL T' O'=true
 |0=>⟨[],T,O,.nil T O,ok⟩
 |n+1=>by
  obtain⟨ans,T1,O1,h,ok1⟩:=Lb S ok n;obtain⟨c,tx,T2,O2,r,ok2⟩:=Sp ok1 (S n);exact⟨_,T2,O2,.more h r ok2,ok2⟩
def cQ{S:Nat->Aj}{n:Nat}{T T':List Ae}{O O':List Ab}{ans:List (Int×ByteArray)}(h:La S n T O ans T' O'):ans.length=n:=by
 induction h with
 |nil=>rfl
 |more _ _ _ ih=>simp[ih]
def run_parts{S:Nat->Aj}{c:Nat}{T T1:List Ae}{O O1:List Ab}{ans:List (Int×ByteArray)}(h:La S c T O ans T1 O1):∀{n:Nat}{T2:List Ae}{O2:List Ab}{bs:List (Int×ByteArray)},La (fun i=>S (c+i)) n T1 O1 bs T2 O2->La S (c+n) T O (ans++bs) T2 O2:=by
 intro n T2 O2 bs k;induction k with
 |nil=>simpa using h
 |more k1 r ok ih=>
  rw[<-List.append_assoc];exact .more (ih h) r ok
open _root_.Nat renaming le_trans→qj,lt_of_lt_of_le→qv
open _root_.Array renaming getElem→jN
open Go.World renaming ownsRow→qq,setCell→xj
open _root_.List renaming getElem→jW
variable {a b c W w:World}{P t B n i B':Nat}{x y v:Value}{f g f' g':Nat->Int}
def Cw{row:Option Nat}(h:a.grownBy b (some P))(k:b.grownBy c row)(hr:∀j,row=some j->a.heap.size<=j):a.grownBy c (some P):=
 ⟨k.os.trans h.os,k.tape.trans h.tape,k.output.trans h.output,qj h.size k.size,fun j hj hne=>(k.block j (qv hj h.size) (fun e=>by have:=hr j e.symm;omega)).trans (h.block j hj hne)⟩
def Ag.set1(h:Ag W P (.cells #[x,y] t))(v:Value):Ag (W.setCell ⟨P,1,none⟩ v) P (.cells #[x,v] t):=by
 unfold Ag at *;simp[xj,jN?_modify,h]
def Ag.jQ(h:Ag W P (.cells #[x,y] t))(i:Nat):W.frozen? ⟨P,i,none⟩=false:=by
 unfold Ag at h;simp[World.frozen?,h]
def AO.alloc(h:AO w B v n f g)(o:Obj):AO (w.alloc o) B v n f g:=qq.alloc h o
def N0(w:World)(x y:Int):Bd (w.alloc (.cells #[.int .i64 x,.int .i64 y] 96)) (some ⟨w,0,none⟩) 1 (fun _=>x) (fun _=>y):=fun _=>by
 obtain⟨h1,h2⟩:=Ag.two (Ag.new w (.cells #[.int .i64 x,.int .i64 y] 96));refine⟨w,0,rfl,by simp,fun i hi=>?_⟩;obtain rfl:i=0:=by omega
 exact⟨h1,h2⟩
def Db(l:List (Int×Int))(i:Nat):Int:=(l.getD i (0,0)).1
def Dc(l:List (Int×Int))(i:Nat):Int:=(l.getD i (0,0)).2
def Qh{l:List (Int×Int)}{p:Int×Int}(h:i<l.length):Db (l++[p]) i=Db l i:=by
 simp[Db,jW?_append_left h]
def Qv{l:List (Int×Int)}{p:Int×Int}(h:i<l.length):Dc (l++[p]) i=Dc l i:=by
 simp[Dc,jW?_append_left h]
def Qr(l:List (Int×Int))(p:Int×Int):Db (l++[p]) l.length=p.1:=by simp[Db]
def Qq(l:List (Int×Int))(p:Int×Int):Dc (l++[p]) l.length=p.2:=by simp[Dc]
def PX(hf:∀i,i<n->f i=f' i)(hg:∀i,i<n->g i=g' i):Cp f g n=Cp f' g' n:=by
 unfold Cp;apply List.map_congr_left;intro j hj;have hj':j<n*2:=List.mem_range.1 hj;have:j/2<n:=by omega
 unfold Dx;rw[hf _ this,hg _ this]
def AO.congr(h:AO w B v n f g)(hf:∀i,i<n->f i=f' i)(hg:∀i,i<n->g i=g' i):AO w B v n f' g':=by
 unfold AO at *;rw[<-PX hf hg];exact h
def Bo(w:World)(B:Nat)(v:Value)(l:List (Int×Int)):Prop:=AO w B v l.length (Db l) (Dc l)
def Bo.snoc{l:List (Int×Int)}{x y:Int}(h:AO w B v (l.length+1) (glue l.length (Db l) (fun _=>x)) (glue l.length (Dc l) (fun _=>y))):Bo w B v (l++[(x,y)]):=by
 unfold Bo;rw[List.length_append];refine h.congr (fun i hi=>?_) (fun i hi=>?_)
 ·by_cases e:i<l.length
  ·simp only[glue,e,if_true];rw[Qh e]
  ·obtain rfl:i=l.length:=by have hi':i<l.length+1:=hi;omega
   rw[Qr];simp[glue]
 ·by_cases e:i<l.length
  ·simp only[glue,e,if_true];rw[Qv e]
  ·obtain rfl:i=l.length:=by have hi':i<l.length+1:=hi;omega
   rw[Qq];simp[glue]
def Bo.below{w':World}{l:List (Int×Int)}(h:Bo w B v l)(hb:Below w w w'):Bo w' B v l:=by
 refine⟨h.1,?_⟩;rcases h.2 with hn|⟨g,cap,cur,hv,hbg,hg,rest⟩
 ·exact .inl hn
 ·exact .inr ⟨g,cap,cur,hv,hbg,(hb.block g (jN?_eq_some_iff.1 hg).1).trans hg,rest⟩
def Bo.set{l:List (Int×Int)}(h:Bo w B v l)(hP:P<B)(i:Nat)(x:Value):Bo (w.setCell ⟨P,i,none⟩ x) B v l:=
 qq.kept h (Br (Bi w P) i x) (Or.inr (fun e=>by have:=(qq.lt h _ e).1;omega))
def Bo.low{l:List (Int×Int)}(h:Bo w B v l)(hB:B'<=B):Bo w B' v l:=by
 refine⟨h.1,?_⟩;rcases h.2 with hn|⟨g,cap,cur,hv,hb,rest⟩
 ·exact .inl hn
 ·exact .inr ⟨g,cap,cur,hv,by omega,rest⟩
def ownsRow_base_a{e size:Nat}{cs:List Value}(h:w.ownsRow B e size v n cs)(hB:B'<=B):w.ownsRow B' e size v n cs:=by
 refine⟨h.1,?_⟩;rcases h.2 with hn|⟨g,cap,cur,hv,hbg,rest⟩
 ·exact .inl hn
 ·exact .inr ⟨g,cap,cur,hv,qj hB hbg,rest⟩
def JZ(h:a.grownBy b (some P))(k:Below b b c):a.grownBy c (some P):=
 ⟨k.os.trans h.os,k.tape.trans h.tape,k.output.trans h.output,qj h.size k.size,fun j hj hne=>(k.block j (qv hj h.size)).trans (h.block j hj hne)⟩
def Ag.set0(h:Ag W P (.cells #[x,y] t))(v:Value):Ag (W.setCell ⟨P,0,none⟩ v) P (.cells #[v,y] t):=by
 unfold Ag at *;simp[xj,jN?_modify,h]
def Ge(base:Int)(f g:Nat->Int)(cat level:Int):Nat->List (Int×Int)×Bool
 |0=>([],level==base)
 |k+1=>
  let r:=Ge base f g cat level k
  let q:=if !r.2&&decide (cat<=f k)then(r.1++[(cat,level)],true)else r
  (if f k=cat then q.1 else q.1++[(f k,g k)],q.2)
def Fp(base:Int)(n:Nat)(f g:Nat->Int)(cat level:Int):List (Int×Int):=
 let r:=Ge base f g cat level n
 if r.2 then r.1 else r.1++[(cat,level)]
def Yy(base:Int)(f g:Nat->Int)(cat level:Int)(k:Nat):(Ge base f g cat level k).1.length<=2*k:=by
 induction k with
 |zero=>simp[Ge]
 |succ k ih=>
  simp only[Ge];split<;>split<;>(try simp only[List.length_append,List.length_singleton])<;>omega
open Go.Proofs.Tryz
open Go.Value renaming slice→qV,int→iT
open Go.IntKind renaming i64→qH
open Go.Obj renaming cells→qG
def Ix(l:List (Int×Int))(d:Bool)(cat level x:Int):List (Int×Int)×Bool:=if !d&&decide (cat<=x)then(l++[(cat,level)],true)else(l,d)
def Pr{base:Int}{f g:Nat->Int}{cat level:Int}{k:Nat}{l:List (Int×Int)}{d:Bool}(h:Ge base f g cat level k=(l,d)):
 Ge base f g cat level (k+1)=(if f k=cat then(Ix l d cat level (f k)).1 else(Ix l d cat level (f k)).1++[(f k,g k)],(Ix l d cat level (f k)).2):=by
 simp only[Ge,h,Ix]
def Zh(l:List (Int×Int))(d:Bool)(cat level x:Int):(Ix l d cat level x).1.length<=l.length+1:=by
 unfold Ix;split<;>simp
def Gz(base:Int)(a:Option Addr)(n cap:Nat)(f g:Nat->Int)(cat level:Int)(w:World)(hn:n<=1048576)(hc:Bd w a n f g):
 Calls prog 57 #[.agg #[iT qH base,qV a n cap],cat,iT qH level] w fun e w'=>∃va vc,e= .returned (.agg #[iT qH base,qV va (Fp base n f g cat level).length vc])/\
  Bo w' w (qV va (Fp base n f g cat level).length vc) (Fp base n f g cat level)/\Below w w w':=by
 have n3:No (qG #[iT qH base,qV none 0 0] 42):=⟨⟩;have n4:No (qG #[iT qH base,qV a n cap] 42):=⟨⟩;have n5:No (qG #[iT qH 0,qV none 0 0] 42):=⟨⟩;have hb0:=(((Below.refl _ w).alloc nr n4).alloc sI n5).alloc sO n3;have n1:Nw (((w.alloc n4).alloc n5).alloc n3):=⟨⟩;have X0:Ag n1 w n4:=((Ag.new w _).alloc _).alloc _;have Y0:Ag n1 (w.heap.size+1) n5:=by
  have:=(Ag.new (w.alloc n4) n5).alloc n3;simpa using this
 have Z0:Ag n1 (w.heap.size+1+1) n3:=by
  have:=Ag.new ((w.alloc n4).alloc n5) n3;simpa using this
 go_enter func57,ntmps57
 go_wp2;obtain⟨w4,hW0⟩:∃w4:World,n1=w4:=⟨_,rfl⟩;rw[hW0]at hb0 X0 Y0 Z0 ⊢;clear hW0;go_loopw [8,9] (fun d i wr=>∃(k:Nat) (v:Value),k<=n/\i= iT qH k/\d= .bool (Ge base f g cat level k).2/\Ag wr (w.heap.size+1+1) (qG #[iT qH base,v] 42)/\Bo wr w4 v (Ge base f g cat level k).1/\w4.grownBy wr (some (w.heap.size+1+1))) (fun _ i _=>n-(intOf i).toNat)
 case atStart=>exact⟨0,_,Nat.zero_le _,rfl,rfl,Z0,AO.nil _ _ _ _,Bi _ _⟩
 case round=>
  obtain⟨k,v,hk,rfl,rfl,hZ,hO,hg⟩:=hrel;have lz:=Z0.lt;have r1:wr.cell? ⟨w,0,none⟩=some (iT qH base):=(Ct hg X0.lt qQ).trans X0.two.1;have r2:wr.cell? ⟨w,1,none⟩=some (qV a n cap):=(Ct hg X0.lt qQ).trans X0.two.2;obtain⟨r3,r4⟩:=hZ.two;have hf1:=hZ.jQ 1;have lens:=Yy base f g cat level k;have hw4:=hg.size;by_cases hlt':k<n
  ·obtain⟨b,off,rfl,hlt,hcc⟩:=hc qQ;have hbl:b<w4.heap.size:=Nat.lt_of_lt_of_le hlt hb0.size;have g1:wr.cell? ⟨b,off+k*2,none⟩=some (iT qH (f k)):=(Ct hg hbl qQ).trans ((hb0.cell (p:=⟨b,_,none⟩) hlt).trans (hcc k hlt').1);have g2:wr.cell? ⟨b,off+k*2+1,none⟩=some (iT qH (g k)):=(Ct hg hbl qQ).trans ((hb0.cell (p:=⟨b,_,none⟩) hlt).trans (hcc k hlt').2);have HC1:Hid (w4.cell? ⟨b,off+k*2,none⟩=some (iT qH (f k))):=(hb0.cell (p:=⟨b,_,none⟩) hlt).trans (hcc k hlt').1;have HC2:Hid (w4.cell? ⟨b,off+k*2+1,none⟩=some (iT qH (g k))):=(hb0.cell (p:=⟨b,_,none⟩) hlt).trans (hcc k hlt').2;have i0:(0:Int)<=(k:Int):=qQ;have i1:(k:Int)<(n:Int):=qQ;generalize hR:Ge base f g cat level k=r at *;obtain⟨l,d⟩:=r;dsimp only at hO lens ⊢;have HO:Hid (Bo wr w4 v l):=hO;have HR:Hid (Ge base f g cat level k=(l,d)):=hR;have zz:w.heap.size+1+1<wr.heap.size:=hZ.lt;have HNE:Hid (some (w.heap.size+1+1)≠v.ownBlock):=fun e=>by have:=(qq.lt HO _ e.symm).1;omega
   clear hcc hO hR;obtain⟨tb,htb⟩:∃tb,tb=(!d&&decide (cat<=f k)):=⟨_,rfl⟩;have HTB:Hid (tb=(!d&&decide (cat<=f k))):=htb;clear htb;go_upto_region 6 with fail
   go_cut[35] (fun t wc=>t= .bool tb/\wc=wr)
   case first=>
    cases d with
    |true=>
     go_wp2_with fail
     go_meet;case rel=>exact⟨by rw[HTB.out];rfl,rfl⟩
    |false=>
     go_wp2_with fail
     go_meet;case rel=>exact⟨by rw[HTB.out];rfl,rfl⟩
   case rest=>
    obtain⟨rfl,rfl⟩:=hcut;go_upto_if 35 with fail
    go_cut[8] (fun dd wc=>∃v1:Value,dd= .bool (Ix l d cat level (f k)).2/\Ag wc (w.heap.size+1+1) (qG #[iT qH base,v1] 42)/\Bo wc w4 v1 (Ix l d cat level (f k)).1/\w4.grownBy wc (some (w.heap.size+1+1)))
    case first=>
     cases tb with
     |true=>
      have HP:Hid (Ix l d cat level (f k)=(l++[(cat,level)],true)):=by
       show _=_;unfold Ix;rw[if_pos HTB.out.symm]
      go_wp2_with(at_builtin;refine Hv _ rfl _ _ rfl w4 _ _ _ _ rfl (AO.alloc HO _) _ 1 1 (fun _=>cat) (fun _=>level) rfl (N0 _ _ _) qQ sO ?_;intro a' c' w' hown' hgrow' hat';have hZ':=(hZ.alloc (qG #[cat,iT qH level] 96)).grown hgrow' (HNE);obtain⟨p1,p2⟩:=hZ'.two;have pf:=hZ'.jQ 1)
      go_meet;case rel=>
       have hgN:w4.grownBy w' (some (w.heap.size+1+1)):=Cw (Cw hg (World.grownBy_alloc _ _ none) (fun j e=>by cases e)) hgrow' (fun j e=>(qq.lt HO j e).1);refine⟨_,by rw[HP.out],hZ'.set1 _,?_,Br hgN _ _⟩;rw[HP.out];have hs:=Bo.snoc hown';exact qq.kept hs (Br (Bi w' _) _ _) (Or.inr (fun e=>by have:=(qq.lt hs _ e).1;omega))
     |false=>
      have HP:Hid (Ix l d cat level (f k)=(l,d)):=by
       show _=_;unfold Ix;rw[if_neg (by rw[<-HTB.out];simp)]
      go_wp2_with fail
      go_meet;case rel=>exact⟨v,by rw[HP.out],hZ,by rw[HP.out];exact HO.out,hg⟩
    case rest=>
     obtain⟨v1,rfl,hZ1,hO1,hg1⟩:=hcut;have y1:wc.cell? ⟨w,0,none⟩=some (iT qH base):=(Ct hg1 X0.lt qQ).trans X0.two.1;have y2:wc.cell? ⟨w,1,none⟩=some (qV (some ⟨b,off,none⟩) n cap):=(Ct hg1 X0.lt qQ).trans X0.two.2;obtain⟨y3,y4⟩:=hZ1.two;have yf:=hZ1.jQ 1;have e1:wc.cell? ⟨b,off+k*2,none⟩=some (iT qH (f k)):=(Ct hg1 hbl qQ).trans HC1.out;have e2:wc.cell? ⟨b,off+k*2+1,none⟩=some (iT qH (g k)):=(Ct hg1 hbl qQ).trans HC2.out;have hs1:=hg1.size;have lenq:=Zh l d cat level (f k);have HO1:Hid (Bo wc w4 v1 (Ix l d cat level (f k)).1):=hO1;have HR1:Hid (Ge base f g cat level (k+1)=(if f k=cat then(Ix l d cat level (f k)).1 else(Ix l d cat level (f k)).1++[(f k,g k)],(Ix l d cat level (f k)).2)):=Pr HR.out;generalize Ix l d cat level (f k)=q at *;obtain⟨l1,d1⟩:=q;dsimp only at lenq ⊢;clear g1 g2 r1 r2 r3 r4 hf1 hZ hg HTB HNE HO hO1 HR;by_cases t:f k=cat
     ·have t':(f k != cat)=false:=(by simpa using t);have HT:Hid (f k=cat):=t;clear t;go_wp2;go_roundw;case rel=>
       exact⟨k+1,v1,by omega,by go_num,by rw[HR1.out],hZ1,by rw[HR1.out,if_pos HT.out];exact HO1.out,hg1⟩
      case measure=>simp[intOf];omega
     ·have t':(f k != cat)=true:=(by simpa using t);have HT:Hid (¬f k=cat):=t;have n2:Nw (wc.alloc (qG #[iT qH (f k),iT qH (g k)] 96)):=⟨⟩;have HOa:AO ((n2:World).drew) w4 v1 l1.length (Db l1) (Dc l1):=AO.alloc HO1 _;have HOC:Bd ((n2:World).drew) (some ⟨wc,0,none⟩) 1 (fun _=>f k) (fun _=>g k):=(N0 wc (f k) (g k)).below (Below.refl _ _).drew;have hbs:w4.heap.size<=((n2:World).drew).heap.size:=(by show w4.heap.size<=(wc.alloc _).heap.size;simp;omega);have HNE:Hid (some (w.heap.size+1+1)≠v1.ownBlock):=fun e=>by have:=(qq.lt HO1 _ e.symm).1;omega
      have zz:w.heap.size+1+1<wc.heap.size:=hZ1.lt;have zb:b<wc.heap.size:=qQ;have zn:w.heap.size<wc.heap.size:=qQ;have hZd:Ag ((n2:World).drew) (w.heap.size+1+1) (qG #[iT qH base,v1] 42):=hZ1.alloc _;clear t;go_wp2_with fail
      go_region_law((refine Fu _ qK _ _ qK w4 v1 _ _ _ qK HOa _ 1 1 (fun _=>f k) (fun _=>g k) qK HOC qQ hbs ?_;intro a' c' w' hown' hgrow' hat';have hZ':=Ag.grown hZd hgrow' (HNE);obtain⟨p1,p2⟩:=hZ'.two;have pf:=hZ'.jQ 1))
      all_goals
       clear HOa HOC hbs hZd;go_wp2;go_roundw;case rel=>
        have hgd:w4.grownBy n2 (some (w.heap.size+1+1)):=Cw hg1 (World.grownBy_alloc _ _ none) (fun j e=>by cases e);have hge:w4.grownBy (n2:World).drew (some (w.heap.size+1+1)):=⟨hgd.os,hgd.tape,hgd.output,hgd.size,hgd.block⟩;have hgN:w4.grownBy w' (some (w.heap.size+1+1)):=Cw hge hgrow' (fun j e=>(qq.lt HO1 j e).1);have hs:=Bo.snoc hown';exact⟨k+1,_,by omega,by go_num,by rw[HR1.out],hZ'.set1 _,by rw[HR1.out,if_neg HT.out];exact qq.kept hs (Br (Bi w' _) _ _) (Or.inr (fun e=>by have:=(qq.lt hs _ e).1;omega)),Br hgN _ _⟩
       case measure=>simp[intOf];omega
  ·have e:k=n:=qQ;subst e;clear hc;generalize hR:Ge base f g cat level k=r at *;obtain⟨l,d⟩:=r;dsimp only at hO lens ⊢;have HO:Hid (Bo wr w4 v l):=hO;have y0:wr.cell? ⟨w.heap.size+1,0,none⟩=some (iT qH 0):=(Ct hg Y0.lt qQ).trans Y0.two.1;have y1:wr.cell? ⟨w.heap.size+1,1,none⟩=some (qV none 0 0):=(Ct hg Y0.lt qQ).trans Y0.two.2;have fz0:wr.frozen? ⟨w.heap.size+1,0,none⟩=false:=(Ha hg Y0.lt qQ).trans (Y0.jQ 0);have fz1:wr.frozen? ⟨w.heap.size+1,1,none⟩=false:=(Ha hg Y0.lt qQ).trans (Y0.jQ 1);have LW:Below w w wr:=hb0.grown hg hb0.size (fun j e=>by cases e;omega);have zz:w.heap.size+1+1<wr.heap.size:=hZ.lt;have HNE:Hid (some (w.heap.size+1+1)≠v.ownBlock):=fun e=>by have:=(qq.lt HO _ e.symm).1;omega
   cases d with
   |true=>
    have HF:Hid (Fp base k f g cat level=l):=(by show _=_;simp[Fp,hR]);obtain⟨va,vc,rfl⟩:=AO.shape hO;clear hR hO;go_wp2;refine bodyPost_ret (v:= .agg #[iT qH base,qV va l.length vc]) (by simp[results,Tryz.results57,go_sem, *]) rfl ⟨va,vc,by rw[HF.out],?_,?_⟩
    ·rw[HF.out];have hs:=HO.out;have h1:=qq.kept hs (Br (Br (Bi wr (w.heap.size+1)) 0 (iT qH base)) 1 (qV va l.length vc)) (Or.inr (fun e=>by have:=(qq.lt hs _ e).1;omega));exact ownsRow_base_a h1 (by have:=hb0.size;omega)
    ·exact(LW.setCell qJ _).setCell qJ _
   |false=>
    have HF:Hid (Fp base k f g cat level=l++[(cat,level)]):=(by show _=_;simp[Fp,hR]);have hYr:Ag wr (w.heap.size+1) (qG #[iT qH 0,qV none 0 0] 42):=Y0.grown hg sI;have HNE1:Hid (some (w.heap.size+1)≠v.ownBlock):=fun e=>by have:=(qq.lt HO _ e.symm).1;omega
    clear hR hO;have n6:No (qG #[cat,iT qH level] 96):=⟨⟩;go_wp2_with(at_builtin;refine Hv _ rfl _ _ rfl w4 _ _ _ _ rfl (AO.alloc HO _) _ 1 1 (fun _=>cat) (fun _=>level) rfl (N0 _ _ _) qQ sO ?_;intro a' c' w' hown' hgrow' hat';have hZ':=(hZ.alloc n6).grown hgrow' (HNE);obtain⟨p1,p2⟩:=hZ'.two;have pf:=hZ'.jQ 1;have hY':=(hYr.alloc n6).grown hgrow' (HNE1);obtain⟨s1,s2⟩:=hY'.two;have sf0:=hY'.jQ 0;have sf1:=hY'.jQ 1)
    have hlen:(l++[(cat,level)]).length=l.length+1:=sI;have LW':Below w w w':=(LW.alloc qQ _).grown hgrow' sO (fun j e=>by have:=(qq.lt HO j e).1;have:=hb0.size;omega);refine bodyPost_ret (v:= .agg #[iT qH base,qV a' (l.length+1) c']) (by simp[results,Tryz.results57,go_sem, *]) rfl ⟨a',c',by rw[HF.out,hlen],?_,?_⟩
    ·rw[HF.out,hlen];have hs:=Bo.snoc hown';have h0:=qq.kept hs (Br (Bi w' (w.heap.size+1+1)) 1 (qV a' (l.length+1) c')) (Or.inr (fun e=>by have:=(qq.lt hs _ e).1;omega));have h1:=qq.kept h0 (Br (Br (Bi _ (w.heap.size+1)) 0 (iT qH base)) 1 (qV a' (l.length+1) c')) (Or.inr (fun e=>by have:=(qq.lt h0 _ e).1;omega));exact ownsRow_base_a h1 (by have:=hb0.size;omega)
    ·exact((LW'.setCell qJ _).setCell qJ _).setCell qJ _
open Go.Ending renaming returned→rT
open Go renaming World→qM
variable {w0 w w':qM}{rb n cap P:Nat}{a:Option Addr}
def BytesAt(w:qM)(a:Option Addr)(n:Nat):Prop:=
 0<n->∃b off,a=some ⟨b,off,none⟩/\b<w.heap.size/\∀i,i<n->∃v:Int,w.cell? ⟨b,off+i,none⟩=some (.int .u8 v)/\0<=v/\v<256
structure Rd(w0 w:qM)(rb:Nat)(a:Option Addr)(n cap:Nat):Prop where
 E:Below w0 w0 w
 le:w0.heap.size<=rb
 bytes:BytesAt w0 a n
 hn:n<=1048576
 at':∃p:Nat,p<=n/\Ag w rb (.cells #[.slice a n cap,iT qH p] 65)
def Rd.below(h:Rd w0 w rb a n cap)(hb:Below w w w'):Rd w0 w' rb a n cap:=by
 obtain⟨E,le,by',hn,p,hp,hB⟩:=h;exact⟨E.trans (hb.mono E.size),le,by',hn,p,hp,hB.below hb⟩
def Rd.other(h:Rd w0 w rb a n cap)(hg:w.grownBy w' (some P))(hP:w0.heap.size<=P)(hne:rb≠P):Rd w0 w' rb a n cap:=by
 obtain⟨E,le,by',hn,p,hp,hB⟩:=h;exact⟨E.grown hg E.size (fun j e=>by cases e;exact hP),le,by',hn,p,hp,hB.grown hg (by simpa using hne)⟩
def Rd.drew(h:Rd w0 w rb a n cap):Rd w0 w.drew rb a n cap:=h.below (Below.refl _ _).drew
def Rd.lt(h:Rd w0 w rb a n cap):rb<w.heap.size:=by
 obtain⟨_,_,_,_,p,_,hB⟩:=h;exact hB.lt
def Cu{a b c:qM}(h:a.grownBy b (some P))(k:b.grownBy c (some P)):a.grownBy c (some P):=
 ⟨k.os.trans h.os,k.tape.trans h.tape,k.output.trans h.output,Nat.le_trans h.size k.size,fun j hj hne=>(k.block j (qv hj h.size) hne).trans (h.block j hj hne)⟩
def KZ(w:qM)(P:Nat):w.grownBy w.drew (some P):=⟨rfl,rfl,rfl,Nat.le_refl _,fun _ _ _=>rfl⟩
def Mi(w0:qM)(rb:Nat)(a:Option Addr)(n cap:Nat)(w:qM)(h:Rd w0 w rb a n cap):
 Calls prog 53 #[.pointer rb] w fun e w'=>∃x:Int,e= rT (iT qH x)/\0<=x/\x<256/\Rd w0 w' rb a n cap/\w.grownBy w' (some rb):=by
 obtain⟨E,le,by',hn,p,hp,hB⟩:=h;obtain⟨x1,x2⟩:=hB.two;have f1:=hB.jQ 1;by_cases t:p<n
 ·obtain⟨b,off,rfl,hlt,hc⟩:=by' qQ;obtain⟨v,hv,v0,v1⟩:=hc p t;have r1:w.cell? ⟨b,off+p,none⟩=some (.int .u8 v):=(E.cell (p:=⟨b,off+p,none⟩) hlt).trans hv;have hne:b≠rb:=by omega
  have i0:(0:Int)<=(p:Int):=by omega
  have i1:(p:Int)<(n:Int):=by omega
  have HB:Hid (Ag w rb (.cells #[.slice (some ⟨b,off,none⟩) n cap,iT qH p] 65)):=hB;have HBY:Hid (BytesAt w0 (some ⟨b,off,none⟩) n):=by';clear hc hv hB by';go_enter func53,ntmps53
  go_wp2_with fail
  go_region_held3(fun w'=>w'.cell? ⟨rb,0,none⟩=some (.slice (some ⟨b,off,none⟩) n cap)/\w'.cell? ⟨rb,1,none⟩=some (iT qH p)) (go_keep) (fail)
  go_wp2_with fail
  have B2:Ag (w.setCell ⟨rb,1,none⟩ (iT qH ((p:Int)+1))).drew rb (.cells #[.slice (some ⟨b,off,none⟩) n cap,iT qH ((p:Int)+1)] 65):=HB.out.set1 _;have g2:w.grownBy (w.setCell ⟨rb,1,none⟩ (iT qH ((p:Int)+1))).drew (some rb):=Cu (Br (Bi _ _) _ _) (KZ _ _);generalize (w.setCell ⟨rb,1,none⟩ (iT qH ((p:Int)+1))).drew=W2 at *;have r2:W2.cell? ⟨b,off+p,none⟩=some (.int .u8 v):=(Ct g2 (qv hlt E.size) hne).trans r1;obtain⟨y1,y2⟩:=B2.two;have w1:IntKind.i64.wrap ((p:Int)+1-1)=(p:Int):=by rw[IntKind.wrap_i64];omega
  have w2:IntKind.i64.wrap (p:Int)=(p:Int):=by rw[IntKind.wrap_i64];omega
  clear x1 x2 f1 r1;go_region_held3(fun w'=>w'.cell? ⟨rb,0,none⟩=some (.slice (some ⟨b,off,none⟩) n cap)/\w'.cell? ⟨rb,1,none⟩=some (iT qH ((p:Int)+1))/\w'.cell? ⟨b,off+p,none⟩=some (.int .u8 v)) (go_keep) (fail)
  go_wp2;go_ret;refine⟨_,rfl,?_,?_,Rd.drew ⟨E.grown g2 E.size (fun j e=>by cases e;exact le),le,HBY,hn,p+1,by omega,by simpa using B2⟩,Cu g2 (KZ _ _)⟩
  ·rw[IntKind.wrap_i64];omega
  ·rw[IntKind.wrap_i64];omega
 ·have e:p=n:=by omega
  subst e;have HB:Hid (Ag w rb (.cells #[.slice a p cap,iT qH p] 65)):=hB;have HBY:Hid (BytesAt w0 a p):=by';clear hB by';go_enter func53,ntmps53
  go_wp2_with fail
  go_region_held3(fun w'=>w'.cell? ⟨rb,0,none⟩=some (.slice a p cap)/\w'.cell? ⟨rb,1,none⟩=some (iT qH p)) (go_keep) (fail)
  go_wp2;go_ret;exact⟨0,rfl,by omega,by omega,Rd.drew ⟨E,le,HBY,hn,p,hp,HB⟩,KZ _ _⟩
def AF(w0:qM)(rb:Nat)(a:Option Addr)(n cap:Nat)(m:Nat)(w:qM)(hm:m<=65536)(h:Rd w0 w rb a n cap):
 Calls prog 26 #[.pointer rb,iT qH m] w fun e w'=>∃x:Nat,e= rT (iT qH x)/\x<m+1/\(1<=m->x<m)/\Rd w0 w' rb a n cap/\w.grownBy w' (some rb):=by
 have HR:Hid (Rd w0 w rb a n cap):=h;clear h;by_cases t:m<=1
 ·have t':(m:Int)<=1:=by omega
  go_enter func26,ntmps26
  go_wp2;go_ret;exact⟨0,rfl,by omega,by omega,HR,Bi _ _⟩
 ·have t':¬(m:Int)<=1:=by omega
  have m0:(m:Int)≠0:=by omega
  by_cases t2:m<=256
  ·have t2':(m:Int)<=256:=qQ;go_enter func26,ntmps26
   go_wp2_with fail
   refine(Mi w0 rb a n cap _ HR).mono ?_;rintro e w1 ⟨x,rfl,x0,x1,R1,g1⟩;obtain⟨y,rfl⟩:∃y:Nat,x=y:=⟨x.toNat,by omega⟩;have HR1:Hid (Rd w0 w1 rb a n cap):=R1;clear R1;go_wp2;go_ret;refine⟨y%m,Fw ?_,?_,fun _=>Nat.mod_lt _ qQ,HR1,g1⟩
   ·simp
   ·have:=Nat.mod_lt y (show 0<m by omega);omega
  ·have t2':¬(m:Int)<=256:=qQ;go_enter func26,ntmps26
   go_wp2_with fail
   refine(Mi w0 rb a n cap _ HR).mono ?_;rintro e w1 ⟨x,rfl,x0,x1,R1,g1⟩;obtain⟨y,rfl⟩:∃y:Nat,x=y:=⟨x.toNat,by omega⟩;have wy:IntKind.i64.wrap ((y:Int)*256)=(y:Int)*256:=(by rw[IntKind.wrap_i64];omega);have HR1:Hid (Rd w0 w1 rb a n cap):=R1;clear R1;go_wp2_with fail
   refine(Mi w0 rb a n cap _ HR1).mono ?_;rintro e w2 ⟨x,rfl,x2,x3,R2,g2⟩;obtain⟨z,rfl⟩:∃z:Nat,x=z:=⟨x.toNat,by omega⟩;have wz:IntKind.i64.wrap ((y:Int)*256+(z:Int))=(y:Int)*256+(z:Int):=(by rw[IntKind.wrap_i64];omega);have yz:(0:Int)<=(y:Int)*256+(z:Int):=qQ;have HR2:Hid (Rd w0 w2 rb a n cap):=R2;clear R2;go_wp2;go_ret;refine⟨(y*256+z)%m,Fw ?_,?_,fun _=>Nat.mod_lt _ qQ,HR2,Cu g1 g2⟩
   ·simp
   ·have:=Nat.mod_lt (y*256+z) (show 0<m by omega);omega
def Eb(w0:qM)(rb:Nat)(a:Option Addr)(n cap:Nat)(m:Nat)(w:qM)(hm:m<=65536)(h:Rd w0 w rb a n cap):
 Calls prog 54 #[.pointer rb,iT qH m] w fun e w'=>∃t:Bool,e= rT (.bool t)/\Rd w0 w' rb a n cap/\w.grownBy w' (some rb):=by
 have HR:Hid (Rd w0 w rb a n cap):=h;clear h;go_enter func54,ntmps54
 go_wp2_with fail
 refine(AF w0 rb a n cap m _ hm HR).mono ?_;rintro e w1 ⟨x,rfl,_,_,R1,g1⟩;have HR1:Hid (Rd w0 w1 rb a n cap):=R1;have wm:IntKind.i64.wrap ((m:Int)-1)=(m:Int)-1:=by rw[IntKind.wrap_i64];omega
 clear R1;go_wp2;go_ret;exact⟨_,rfl,HR1,g1⟩
def Tq(w0:qM)(rb:Nat)(a:Option Addr)(n cap:Nat)(w:qM)(h:Rd w0 w rb a n cap):
 Calls prog 128 #[.pointer rb] w fun e w'=>∃x:Int,e= rT (.int .u64 x)/\Rd w0 w' rb a n cap/\w.grownBy w' (some rb):=by
 have HR:Hid (Rd w0 w rb a n cap):=h;clear h;go_enter func128,ntmps128
 go_wp2;go_loopw [3,4] (fun v i wr=>∃(k:Nat) (x:Int),k<=8/\i= iT qH k/\v= .int .u64 x/\Rd w0 wr rb a n cap/\w.grownBy wr (some rb)) (fun _ i _=>8-(intOf i).toNat)
 case atStart=>exact⟨0,0,by omega,rfl,rfl,HR,Bi _ _⟩
 case round=>
  obtain⟨k,x,hk,rfl,rfl,R1,g1⟩:=hrel;have HR1:Hid (Rd w0 wr rb a n cap):=R1;clear R1;by_cases t:k<8
  ·have t':(k:Int)<8:=qQ;go_wp2_with fail
   refine(Mi w0 rb a n cap _ HR1).mono ?_;rintro e w2 ⟨y,rfl,y0,y1,R2,g2⟩;have HR2:Hid (Rd w0 w2 rb a n cap):=R2;clear R2;go_wp2;go_roundw;case rel=>exact⟨k+1,_,by omega,by go_num,rfl,HR2,Cu g1 g2⟩
   case measure=>simp[intOf];omega
  ·have t':¬(k:Int)<8:=qQ;go_wp2;go_ret;exact⟨⟨x,rfl⟩,HR1,g1⟩
def YU(w0:qM)(rb:Nat)(a:Option Addr)(n cap:Nat)(lo hi:Nat)(w:qM)(hl:lo<=hi)(hh:hi<=1000)(h:Rd w0 w rb a n cap):
 Calls prog 101 #[.pointer rb,iT qH lo,iT qH hi] w fun e w'=>∃x:Int,e= rT (iT qH x)/\Rd w0 w' rb a n cap/\w.grownBy w' (some rb):=by
 have HR:Hid (Rd w0 w rb a n cap):=h;clear h;have w1:IntKind.i64.wrap ((hi:Int)-lo)=(hi:Int)-lo:=by rw[IntKind.wrap_i64];omega
 have w2:IntKind.i64.wrap ((hi:Int)-lo+1)=(hi:Int)-lo+1:=by rw[IntKind.wrap_i64];omega
 have nl:¬(hi:Int)<(lo:Int):=by omega
 go_enter func101,ntmps101
 go_wp2_with fail
 refine(AF w0 rb a n cap 8 _ qQ HR).mono ?_;rintro e u1 ⟨x,rfl,_,x8,R1,g1⟩;have HR1:Hid (Rd w0 u1 rb a n cap):=R1;clear R1;by_cases t0:x=0
 ·subst t0;go_wp2;go_ret;exact⟨_,rfl,HR1,g1⟩
 ·by_cases t1:x=1
  ·subst t1;go_wp2;go_ret;exact⟨_,rfl,HR1,g1⟩
  ·have t0':((x:Int)==0)=false:=(by simpa using t0);have t1':((x:Int)==1)=false:=sO;go_wp2_with fail
   refine(Tq w0 rb a n cap _ HR1).mono ?_;rintro e u2 ⟨y,rfl,R2,g2⟩;have HR2:Hid (Rd w0 u2 rb a n cap):=R2;clear R2;have m1:IntKind.u64.wrap ((hi:Int)-lo+1)=(hi:Int)-lo+1:=(by rw[IntKind.wrap_u64];omega);have m0:¬((hi:Int)-lo+1)=0:=qQ;go_wp2;go_ret;exact⟨_,rfl,HR2,Cu g1 g2⟩
def bT(w0:World)(rb:Nat)(a:Option Addr)(n cap:Nat)(lo hi:Nat)(w:World)(hl:lo<=hi)(hh:hi<=1000)(h:Rd w0 w rb a n cap):
 Calls prog 52 #[.pointer rb,.int .i64 lo,.int .i64 hi] w fun e w'=>∃x:Int,e= .returned (.int .i64 x)/\Rd w0 w' rb a n cap/\w.grownBy w' (some rb):=by
 have HR:Hid (Rd w0 w rb a n cap):=h;clear h;have w1:IntKind.i64.wrap ((lo:Int)-1)=(lo:Int)-1:=by rw[IntKind.wrap_i64];omega
 have w2:IntKind.i64.wrap ((hi:Int)+1)=(hi:Int)+1:=by rw[IntKind.wrap_i64];omega
 go_enter func52,ntmps52
 go_wp2_with fail
 refine(Eb w0 rb a n cap 24 _ qQ HR).mono ?_;rintro e u1 ⟨t,rfl,R1,g1⟩;have HR1:Hid (Rd w0 u1 rb a n cap):=R1;clear R1;cases t with
 |true=>
  go_wp2_with fail
  have lr:=HR1.out.lt;refine(AF w0 rb a n cap 4 _ qQ (HR1.out.below (Bg _ _))).mono ?_;rintro e u2 ⟨x,rfl,_,x4,R2,g2⟩;have x4':=x4 qQ;have HR2:Hid (Rd w0 u2 rb a n cap):=R2;have gN:w.grownBy u2 (some rb):=Cu (Cw g1 (World.grownBy_alloc u1 _ none) (fun j e=>by cases e)) g2;have Bk:Ag u2 u1 (.cells #[.int .i64 ((lo:Int)-1),.int .i64 ((hi:Int)+1),.int .i64 (-9223372036854775808),.int .i64 9223372036854775807] 2):=(Ag.new u1 _).grown g2 sO;unfold Ag at Bk;have c0:u2.cell? ⟨u1,0,none⟩=some (.int .i64 ((lo:Int)-1)):=by simp[World.cell?,Bk]
  have c1:u2.cell? ⟨u1,1,none⟩=some (.int .i64 ((hi:Int)+1)):=by simp[World.cell?,Bk]
  have c2:u2.cell? ⟨u1,2,none⟩=some (.int .i64 (-9223372036854775808)):=by simp[World.cell?,Bk]
  have c3:u2.cell? ⟨u1,3,none⟩=some (.int .i64 9223372036854775807):=by simp[World.cell?,Bk]
  clear R2 x4 Bk g2;have hx:x=0∨x=1∨x=2∨x=3:=by omega
  rcases hx with rfl|rfl|rfl|rfl;all_goals
   clear x4';go_wp2;go_ret;exact⟨_,rfl,HR2,gN⟩
 |false=>
  go_wp2_with fail
  refine(YU w0 rb a n cap lo hi _ hl hh HR1).mono ?_;rintro e u2 ⟨x,rfl,R2,g2⟩;have HR2:Hid (Rd w0 u2 rb a n cap):=R2;clear R2;go_wp2;go_ret;exact⟨_,rfl,HR2,Cu g1 g2⟩
open Go.Region renaming ready→jx,binds→kP,noSelect→xK
section
variable {P:Program}{ops:Array Oper}{Q:Exit->Act->qM->Prop}{md:Region.Mode}{S:qM->Prop}{n:Nat}
def Cq(P:Program)(md:Region.Mode)(ops:Array Oper)(Q:Exit->Act->qM->Prop)(S:qM->Prop)(n:Nat)(f:Nat)(L:Array Bool)(a:Act)(w:qM):Prop:=
 match f with
 |0=>jx md ops L=[]/\Q .normal a w
 |f+1=>(jx md ops L=[]->Q .normal a w)/\
  ∀i∈jx md ops L,wpOp P ops Q i (fun a' w'=>(i≠n->S w')/\Cq P md ops Q S n f (L.setIfInBounds i true) a' w') a w
def Cq.any{f:Nat}:∀{L:Array Bool}{a:Act}{w:qM},Cq P md ops Q S n f L a w->wpAny P md ops Q f L a w:=by
 induction f with
 |zero=>intro L a w h;exact h
 |succ f ih=>intro L a w h;exact⟨h.1,fun i hi=>wpOp_mono (fun _ _ k=>ih k.2) (h.2 i hi)⟩
def OT{i:Nat}{L:Array Bool}(h:i∈jx md ops L):L.getD i false=false:=by
 have h0:=(mem_ready.1 h).1;by_cases hl:i<L.size
 ·simp[hl]at h0 ⊢;exact h0
 ·simp[Array.getElem?_eq_none (Nat.le_of_not_lt hl)]
def Cq.takes{i:Nat}{oi:Oper}{v:Value}(hi:ops[i]? =some oi)(hs:xK ops=true)
 (hwait:∀o,ops[n]? =some o->∃e∈o.after,kP md e=true/\e.on=i)
 (hQ:∀c a w,Q (.panic c) (a.put oi.dst v) w->Q (.panic c) a w)(f:Nat):∀{L:Array Bool}{a:Act}{w:qM},
 (∀j oj,ops[j]? =some oj->j≠i->L.getD j true=false->(∀e∈oj.after,kP md e=true->e.on≠i)->oi.apart ops oj=true)->
 i∈jx md ops L->YieldsIf P ops S oi v a->S w->Cq P md ops Q S n f (L.setIfInBounds i true) (a.put oi.dst v) w->Cq P md ops Q S n (f+1) L a w:=by
 have sel:=Region.noSelect_spec hs;induction f with
 |zero=>
  intro L a w _ hr hy hS H;refine⟨fun e=>absurd hr (by rw[e];simp),fun j hj=>?_⟩;by_cases e:j=i
  ·subst e;exact hy.wpOp hi hS ⟨fun _=>hS,H⟩
  ·have:=ready_mono hj e;rw[H.1]at this;simp at this
 |succ f ih=>
  intro L a w hfree hr hy hS H;refine⟨fun e=>absurd hr (by rw[e];simp),fun j hj=>?_⟩;by_cases e:j=i
  ·subst e;exact hy.wpOp hi hS ⟨fun _=>hS,H⟩
  ·obtain⟨hun,oj,hoj,hall⟩:=mem_ready.1 hj;have un:=OT hr;have apart:∀x∈oj.after,kP md x=true->x.on≠i:=fun x hx hb hq=>by
    have:=hall x hx hb;rw[hq,un]at this;cases this
   have hjn:j≠n:=fun hq=>by
    obtain⟨x,hx,hb,ho⟩:=hwait oj (by rw[<-hq];exact hoj);exact apart x hx hb ho
   refine wpOp_mono (fun a' w' k=>⟨fun _=>k.2.1 hjn,?_⟩) (wpOp_putIf hoj (hfree j oj hoj e hun apart) (fun cs b=>sel i oi cs b hi) (fun cs b=>sel j oj cs b hoj) hQ hy (H.2 j (ready_mono hj e)));refine ih (fun k ok hk hki hkl hkn=>hfree k ok hk hki ?_ hkn) (ready_mono hr (Ne.symm e)) k.1 (k.2.1 hjn) ?_
   ·by_cases q:j=k
    ·subst q;exact hun
    ·rw[getD_set_ne true q]at hkl;exact hkl
   ·rw[Array.setIfInBounds_comm _ _ e];exact k.2.2
def VK(md:Region.Mode)(ops:Array Oper)(n i:Nat):Bool:=match ops[n]? with
 |some o=>o.after.any (fun e=>kP md e&&e.on==i)
 |none=>true
def X9{i:Nat}(h:VK md ops n i=true):∀o,ops[n]? =some o->∃e∈o.after,kP md e=true/\e.on=i:=fun o ho=>by
 unfold VK at h;rw[ho]at h;dsimp only at h;obtain⟨e,he,hb⟩:=Array.any_eq_true'.1 h;simp only[Bool.and_eq_true,beq_iff_eq]at hb;exact⟨e,he,hb⟩
def Cq.take{i:Nat}{oi:Oper}(v:Value){f:Nat}{L:Array Bool}{a:Act}{w:qM}(hi:ops[i]? =some oi)(hs:xK ops=true)(hf:Region.free md ops L i=true)
 (hr:(jx md ops L).contains i=true)(hw:VK md ops n i=true)(hQ:∀c a w,Q (.panic c) (a.put oi.dst v) w->Q (.panic c) a w)(hS:S w)
 (hy:YieldsIf P ops S oi v a)(h:Cq P md ops Q S n f (L.setIfInBounds i true) (a.put oi.dst v) w):Cq P md ops Q S n (f+1) L a w:=
 Cq.takes hi hs (X9 hw) hQ f (Region.free_spec hi hf) (by simpa using hr) hy hS h
def Cq.one{i:Nat}{o:Oper}{f:Nat}{L:Array Bool}{a:Act}{w:qM}(hi:ops[i]? =some o)(hr:jx md ops L=[i])
 (h:∀K':Act->qM->Prop,Hid (∀a w,(i≠n->S w)->Cq P md ops Q S n f (L.setIfInBounds i true) a w->K' a w)->if Region.wanted o (yielded ops a.tmps)=true then Oper.wp P o a w K' Q else K' (a.put o.dst undef) w):Cq P md ops Q S n (f+1) L a w:=
 ⟨fun e=>absurd (hr.symm.trans e) sI,fun j hj=>by
   rw[hr]at hj;obtain rfl:j=i:=by simpa using hj
   exact wpOp_step hi (fun K' hK=>h K' (fun a w h1 h2=>hK a w ⟨h1,h2⟩))⟩
def Cq.done{f:Nat}{L:Array Bool}{a:Act}{w:qM}(hr:jx md ops L=[])(h:Q .normal a w):Cq P md ops Q S n f L a w:=by
 cases f with
 |zero=>exact⟨hr,h⟩
 |succ f=>exact⟨fun _=>h,fun i hi=>by rw[hr]at hi;simp at hi⟩
def Cq.region{id:Nat}{a:Act}{w:qM}(S:qM->Prop)(n:Nat)(hm:P.follows .mixedOrders=true)(h:Cq P .any ops Q S n ops.size (Array.replicate ops.size false) a w.drew):(Code.region id ops true).wp P Q a w:=
 wp_region_any hm h.any
end
end Go.Proofs.YtdaccbddcjlkpaaGreatDoor
