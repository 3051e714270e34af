import Derived.Deep.AppendLies
import Derived.Laws.OwnMore
import Derived.WideShapes
import Derived.Maps.AppendAt
import Derived.Test.YtblapfnglojgjaaGreatDoorZ2k
namespace Go.Proofs.YtblapfnglojgjaaGreatDoor
inductive Wq(n:Nat) (O:Nat->Ae):Int->Prop
 |root:Wq n O (O 0).id
 |up {i:Nat} (h0:0<i) (hi:i<n) (h:Wq n O (O i).up):Wq n O (O i).id
variable {n:Nat}{x id:Int}{k:AJ}
structure VT(k:AJ):Prop where
 thr:Br k.tn k.T=true
 lo:1<=k.on
 root:FJ (k.O 0)=true
 obj:∀i,i<k.on->Bz (k.O i)=true
 rise:Dt (fun i=>(k.O i).id) k.on
 num:∀i,0<i->i<k.on->FF k.tn k.T (k.O i).id=true
 box:∀i,0<i->i<k.on->∃p,p<k.on/\(k.O p).id=(k.O i).up/\(k.O p).kind=3
 reach:∀i,i<k.on->Wq k.on k.O (k.O i).id
theorem LG{ids:Nat->Int}(h:∀i,0<i->i<n->ids (i-1)<ids i):Dt ids n:=by
 intro i j hij hj;induction j with
 |zero=>omega
 |succ j ih=>
  have h1:=h (j+1) (by omega) hj;have e:j+1-1=j:=by omega
  rw[e]at h1;by_cases e1:i=j
  ·subst e1;exact h1
  ·have:=ih (by omega) (by omega);omega
theorem RO{O:Nat->Ae}(h:Dt (fun i=>(O i).id) n):FX n O x=true↔∃p,p<n/\(O p).id=x/\(O p).kind=3:=by
 unfold FX;constructor
 ·intro hh;cases e:Bv (fun i=>(O i).id) n x with
  |none=>rw[e]at hh;cases hh
  |some u=>
   rw[e]at hh;obtain⟨h1,h2⟩:=AZ e;exact⟨u,h1,h2,by simpa using hh⟩
 ·rintro⟨p,h1,h2,h3⟩;have e:=Dx h h1;rw[h2]at e;rw[e];simpa using h3
theorem Zy{O:Nat->Ae}:∀{m i:Nat},i<n->Bn (fun i=>(O i).id) (fun i=>(O i).up) n m i=some 0->Wq n O (O i).id
 |0,i,_,h=>by
  simp only[Bn,Option.some.injEq]at h;subst h;exact .root
 |m+1,i,hi,h=>by
  simp only[Bn]at h;cases e:Ky (fun i=>(O i).id) (fun i=>(O i).up) n i with
  |none=>rw[e]at h;cases h
  |some j=>
   rw[e]at h;have hj:=Pz e;have r:=Zy hj h;unfold Ky at e;split at e
   ·cases e
   ·rename_i h0;have:=(AZ e).2;simp only at this;rw[this]at r;exact .up (by omega) hi r
theorem ax{O:Nat->Ae}(h0:0<n)(hx:Wq n O x):∃p,p<n/\(O p).id=x:=by
 induction hx with
 |root=>exact⟨0,h0,rfl⟩
 |@up q _ hq _ _=>exact⟨q,hq,rfl⟩
theorem aO{O:Nat->Ae}(h:Dt (fun i=>(O i).id) n)(h0:0<n)(hx:Wq n O x):∀i,i<n->(O i).id=x->∃m,Bn (fun i=>(O i).id) (fun i=>(O i).up) n m i=some 0:=by
 induction hx with
 |root=>
  intro i hi e;have:i=0:=h.inj hi h0 e;subst this;exact⟨0,rfl⟩
 |@up j hj0 hj hu ih=>
  intro i hi e;have:i=j:=h.inj hi hj e;subst this;have hp:∃p,p<n/\(O p).id=(O i).up:=ax h0 hu;obtain⟨p,hp1,hp2⟩:=hp;obtain⟨m,hm⟩:=ih p hp1 hp2;refine⟨m+1,?_⟩;have e1:Ky (fun i=>(O i).id) (fun i=>(O i).up) n i=some p:=by
   unfold Ky;rw[if_neg (by omega)];have:=Dx h hp1;rw[hp2]at this;exact this
  simp only[Bn,e1,Option.bind_some];exact hm
theorem GV{T:Nat->Af}(h:Br n T=true)(hn:FF n T id=true):∃t,t<n/\(T t).id=id/1000/\1<=id%1000/\id%1000<=(T t).made:=by
 cases e:Bv (fun i=>(T i).id) n (id/1000)with
 |none=>rw[Lo h e]at hn;cases hn
 |some t=>
  obtain⟨h1,h2⟩:=AZ e;rw[Ju h e]at hn;have:=Cv.1 hn;exact⟨t,h1,h2,this.1,this.2⟩
theorem Tz{T:Nat->Af}(h:Br n T=true){t:Nat}(h1:t<n)(h2:(T t).id=id/1000)(h3:1<=id%1000)(h4:id%1000<=(T t).made):FF n T id=true:=by
 have e:=Dx (Kk h) h1;rw[h2]at e;rw[Ju h e];exact Cv.2 ⟨h3,h4⟩
theorem VT.few(h:VT k):k.on<=271:=by
 have lo:=h.lo;let g:Nat->Nat:=fun i=>(((k.O (i+1)).id/1000-1)*30+((k.O (i+1)).id%1000-1)).toNat;have hg:∀i,i<k.on-1->1<=(k.O (i+1)).id/1000/\(k.O (i+1)).id/1000<=9/\1<=(k.O (i+1)).id%1000/\(k.O (i+1)).id%1000<=30:=fun i hi=>by
  obtain⟨t,t1,t2,t3,t4⟩:=GV h.thr (h.num (i+1) (by omega) (by omega));obtain⟨_,_,hT⟩:=Cx h.thr;have hk:=Oy (hT t t1);have h1:=Mc hk;have h2:=Ln hk;omega
 have hl:((List.range (k.on-1)).map g).Nodup:=by
  rw[List.Nodup,List.pairwise_map];refine List.Pairwise.imp_of_mem ?_ (List.pairwise_lt_range (n:=k.on-1));intro a b ha hb hab e;have ha':=List.mem_range.1 ha;have hb':=List.mem_range.1 hb;have ga:=hg a ha';have gb:=hg b hb';have hr:=h.rise (a+1) (b+1) (by omega) (by omega);simp only at hr;have e':g a=g b:=e;simp only[g]at e';omega
 have:=Hj (n:=270) hl (fun x hx=>by
  obtain⟨i,hi,rfl⟩:=List.mem_map.1 hx;have gi:=hg i (List.mem_range.1 hi);show g i<270;simp only[g];omega)
 simp at this;omega
theorem Cl:AW k=true↔VT k:=by
 constructor
 ·intro h;have h1:Br k.tn k.T=true:=by
   cases e:Br k.tn k.T with
   |true=>rfl
   |false=>rw[Hp e]at h;cases h
  have h2:1<=k.on/\k.on<=271:=by
   by_cases e:1<=k.on/\k.on<=271
   ·exact e
   ·rw[Je e]at h;cases h
  rw[JP h1 h2.1 h2.2,Bool.and_eq_true]at h;have hs:=Gc h.1;have hat:∀i,i<k.on->Bz (k.O i)=true/\(if i=0 then FJ (k.O 0)else decide ((k.O (i-1)).id<(k.O i).id)&&FF k.tn k.T (k.O i).id&&FX k.on k.O (k.O i).up)=true:=fun i hi=>by
   have:=hs i hi;unfold Hu at this;exact Bool.and_eq_true_iff.1 this
  have hrest:∀i,0<i->i<k.on->(k.O (i-1)).id<(k.O i).id/\FF k.tn k.T (k.O i).id=true/\FX k.on k.O (k.O i).up=true:=fun i h0 hi=>by
   have:=(hat i hi).2;rw[if_neg (by omega)]at this;simp only[Bool.and_eq_true,decide_eq_true_eq]at this;exact⟨this.1.1,this.1.2,this.2⟩
  have hr:Dt (fun i=>(k.O i).id) k.on:=LG fun i h0 hi=>(hrest i h0 hi).1;refine⟨h1,h2.1,?_,fun i hi=>(hat i hi).1,hr,fun i h0 hi=>(hrest i h0 hi).2.1,fun i h0 hi=>(RO hr).1 (hrest i h0 hi).2.2,fun i hi=>?_⟩
  ·have:=(hat 0 (by omega)).2;rw[if_pos rfl]at this;exact this
  ·obtain⟨m,_,hm⟩:=Gq.1 h.2 i hi;exact Zy hi hm
 ·intro h;have h2:=h.few;rw[JP h.thr h.lo h2,Bool.and_eq_true];refine⟨Ei fun i hi=>?_,Gq.2 fun i hi=>?_⟩
  ·unfold Hu;rw[h.obj i hi,Bool.true_and];by_cases e:i=0
   ·rw[if_pos e];exact h.root
   ·rw[if_neg e];have hr:=h.rise (i-1) i (by omega) hi;simp only at hr;rw[h.num i (by omega) hi,(RO h.rise).2 (h.box i (by omega) hi),decide_eq_true hr];rfl
  ·obtain⟨m,hm⟩:=aO h.rise (by have:=h.lo;omega) (h.reach i hi) i hi rfl;exact⟨m,Pm Gt hi hm,hm⟩
variable {n i p j:Nat}{k:AJ}{x:Ae}
def AJ.setT(k:AJ)(t:Nat)(x:Af):AJ:={k with T:=fun j=>if j=t then x else k.T j}
def AJ.setO(k:AJ)(i:Nat)(x:Ae):AJ:={k with O:=fun j=>if j=i then x else k.O j}
theorem Rk{T:Nat->Af}(h1:1<=n)(h2:n<=9)(h:∀i,i<n->Cj (T i)=true)(hr:Dt (fun i=>(T i).id) n):Br n T=true:=by
 unfold Br;simp only[Bool.and_eq_true,decide_eq_true_eq];refine⟨⟨h1,h2⟩,Ei fun i hi=>?_⟩;unfold Dw;rw[h i hi,Bool.true_and];by_cases e:i=0
 ·subst e;rfl
 ·have:=hr (i-1) i (by omega) hi;simp only at this;simp[this]
theorem VT.setT(h:VT k){t:Nat}{x:Af}(hx:Cj x=true)(hid:x.id=(k.T t).id)(hm:(k.T t).made<=x.made):VT (k.setT t x):=by
 obtain⟨n1,n9,hT⟩:=Cx h.thr;have ids:∀j,((k.setT t x).T j).id=(k.T j).id:=fun j=>by
  show(if j=t then x else k.T j).id=_;split
  ·rename_i e;rw[e,hid]
  ·rfl
 have mades:∀j,(k.T j).made<=((k.setT t x).T j).made:=fun j=>by
  show _<=(if j=t then x else k.T j).made;split
  ·rename_i e;rw[e];exact hm
  ·exact Int.le_refl _
 have hthr:Br (k.setT t x).tn (k.setT t x).T=true:=by
  refine Rk n1 n9 (fun i hi=>?_) (fun i j hij hj=>?_)
  ·show Cj (if i=t then x else k.T i)=true;split
   ·exact hx
   ·exact Oy (hT i hi)
  ·simp only;rw[ids,ids];exact Kk h.thr i j hij hj
 refine⟨hthr,h.lo,h.root,h.obj,h.rise,fun i h0 hi=>?_,h.box,h.reach⟩;obtain⟨u,u1,u2,u3,u4⟩:=GV h.thr (h.num i h0 hi);exact Tz hthr (t:=u) u1 ((ids u).trans u2) u3 (Int.le_trans u4 (mades u))
theorem Yg{O P:Nat->Ae}(h0:(P 0).id=(O 0).id)(h1:∀i,i<n->(P i).id=(O i).id/\(P i).up=(O i).up){x:Int}(hx:Wq n O x):Wq n P x:=by
 induction hx with
 |root=>rw[<-h0];exact .root
 |@up i i0 hi _ ih=>
  rw[<-(h1 i hi).1];refine .up i0 hi ?_;rw[(h1 i hi).2];exact ih
theorem VT.setO(h:VT k)(hx:Bz x=true)(h1:x.id=(k.O i).id)(h2:x.kind=(k.O i).kind)(h3:x.up=(k.O i).up):VT (k.setO i x):=by
 have same:∀j,((k.setO i x).O j).id=(k.O j).id/\((k.setO i x).O j).kind=(k.O j).kind/\((k.setO i x).O j).up=(k.O j).up:=fun j=>by
  show(if j=i then x else k.O j).id=_/\(if j=i then x else k.O j).kind=_/\(if j=i then x else k.O j).up=_;split
  ·rename_i e;rw[e];exact⟨h1,h2,h3⟩
  ·exact⟨rfl,rfl,rfl⟩
 refine⟨h.thr,h.lo,?_,fun j hj=>?_,fun a b hab hb=>?_,fun j j0 hj=>?_,fun j j0 hj=>?_,fun j hj=>?_⟩
 ·have:=h.root;unfold FJ at this ⊢;rw[(same 0).1,(same 0).2.1,(same 0).2.2];exact this
 ·show Bz (if j=i then x else k.O j)=true;split
  ·exact hx
  ·exact h.obj j hj
 ·simp only;rw[(same a).1,(same b).1];exact h.rise a b hab hb
 ·rw[(same j).1];exact h.num j j0 hj
 ·obtain⟨p,p1,p2,p3⟩:=h.box j j0 hj;exact⟨p,p1,by rw[(same p).1,(same j).2.2];exact p2,by rw[(same p).2.1];exact p3⟩
 ·rw[(same j).1];exact Yg (same 0).1 (fun i _=>⟨(same i).1,(same i).2.2⟩) (h.reach j hj)
def Gj(O:Nat->Ae)(p:Nat)(x:Ae)(j:Nat):Ae:=if j<p then O j else if j=p then x else O (j-1)
def AJ.ins(k:AJ)(p:Nat)(x:Ae):AJ:={k with on:=k.on+1,O:=Gj k.O p x}
theorem LX{O:Nat->Ae}(h:j<p):Gj O p x j=O j:=by unfold Gj;rw[if_pos h]
theorem WC{O:Nat->Ae}:Gj O p x p=x:=by unfold Gj;rw[if_neg (Nat.lt_irrefl _),if_pos rfl]
theorem Sc{O:Nat->Ae}(h:p<j):Gj O p x j=O (j-1):=by unfold Gj;rw[if_neg (by omega),if_neg (by omega)]
theorem Uz{O:Nat->Ae}(j:Nat):∃i,i<=j+1/\j<=i/\Gj O p x i=O j/\(0<j->0<i):=by
 by_cases e:j<p
 ·exact⟨j,by omega,by omega,LX e,fun h=>h⟩
 ·refine⟨j+1,by omega,by omega,?_,fun _=>by omega⟩;rw[Sc (by omega)];rfl
theorem VT.ins(h:VT k)(p0:0<p)(hp:p<=k.on)(hlo:∀j,j<p->(k.O j).id<x.id)(hhi:∀j,p<=j->j<k.on->x.id<(k.O j).id)(hx:Bz x=true)(hn:FF k.tn k.T x.id=true)(hb:∃q,q<k.on/\(k.O q).id=x.up/\(k.O q).kind=3):VT (k.ins p x):=by
 have e0:Gj k.O p x 0=k.O 0:=LX p0;have cases3:∀j,j<k.on+1->(j<p/\Gj k.O p x j=k.O j)∨(j=p/\Gj k.O p x j=x)∨(p<j/\j-1<k.on/\Gj k.O p x j=k.O (j-1)):=fun j hj=>by
  by_cases e1:j<p
  ·exact .inl ⟨e1,LX e1⟩
  ·by_cases e2:j=p
   ·exact .inr (.inl ⟨e2,by rw[e2];exact WC⟩)
   ·exact .inr (.inr ⟨by omega,by omega,Sc (by omega)⟩)
 have mono:∀{y:Int},Wq k.on k.O y->Wq (k.on+1) (Gj k.O p x) y:=fun{y} hy=>by
  induction hy with
  |root=>rw[<-e0];exact .root
  |@up i i0 hi _ ih=>
   obtain⟨j,j1,_,j2,j3⟩:=Uz (O:=k.O) (p:=p) (x:=x) i;rw[<-j2];refine .up (j3 i0) (by omega) ?_;rw[j2];exact ih
 obtain⟨q,q1,q2,q3⟩:=hb;refine⟨h.thr,by show 1<=k.on+1;omega,?_,fun j hj=>?_,LG fun j j0 hj=>?_,fun j j0 hj=>?_,fun j j0 hj=>?_,fun j hj=>?_⟩
 ·show FJ (Gj k.O p x 0)=true;rw[e0];exact h.root
 ·show Bz (Gj k.O p x j)=true;rcases cases3 j hj with⟨c,e⟩|⟨_,e⟩|⟨_,c,e⟩<;>rw[e]
  ·exact h.obj j (by omega)
  ·exact hx
  ·exact h.obj _ c
 ·show(Gj k.O p x (j-1)).id<(Gj k.O p x j).id;rcases cases3 j hj with⟨c,e⟩|⟨c,e⟩|⟨c,c2,e⟩
  ·rw[e,LX (by omega)];exact h.rise (j-1) j (by omega) (by omega)
  ·rw[e,LX (by omega)];exact hlo _ (by omega)
  ·rw[e];by_cases e3:j-1=p
   ·rw[e3,WC];exact hhi p nr (by omega)
   ·rw[Sc (by omega)];exact h.rise (j-1-1) (j-1) (by omega) (by omega)
 ·show FF k.tn k.T (Gj k.O p x j).id=true;rcases cases3 j hj with⟨c,e⟩|⟨_,e⟩|⟨c,c2,e⟩<;>rw[e]
  ·exact h.num j j0 (by omega)
  ·exact hn
  ·exact h.num (j-1) (by omega) c2
 ·have Ky:∀{y:Int},(∃q,q<k.on/\(k.O q).id=y/\(k.O q).kind=3)->∃r,r<k.on+1/\(Gj k.O p x r).id=y/\(Gj k.O p x r).kind=3:=fun⟨q,q1,q2,q3⟩=>by
   obtain⟨r,r1,_,r2,_⟩:=Uz (O:=k.O) (p:=p) (x:=x) q;exact⟨r,by omega,by rw[r2];exact q2,by rw[r2];exact q3⟩
  show ∃r,r<k.on+1/\(Gj k.O p x r).id=(Gj k.O p x j).up/\(Gj k.O p x r).kind=3;rcases cases3 j hj with⟨c,e⟩|⟨_,e⟩|⟨c,c2,e⟩<;>rw[e]
  ·exact Ky (h.box j j0 (by omega))
  ·exact Ky ⟨q,q1,q2,q3⟩
  ·exact Ky (h.box (j-1) (by omega) c2)
 ·show Wq (k.on+1) (Gj k.O p x) (Gj k.O p x j).id;rcases cases3 j hj with⟨c,e⟩|⟨c,e⟩|⟨c,c2,e⟩
  ·rw[e];exact mono (h.reach j (by omega))
  ·refine .up (by omega) hj ?_;rw[e,<-q2];exact mono (h.reach q q1)
  ·rw[e];exact mono (h.reach _ c2)
def Em(n:Nat)(keep:Nat->Bool):List Nat:=(List.range n).filter keep
def AJ.cut(k:AJ)(keep:Nat->Bool):AJ:={k with on:=(Em k.on keep).length,O:=fun j=>k.O ((Em k.on keep).getD j 0)}
theorem Gi{keep:Nat->Bool}(hj:j<(Em n keep).length):(Em n keep).getD j 0<n/\keep ((Em n keep).getD j 0)=true:=by
 have e:(Em n keep).getD j 0=(Em n keep)[j]:=by simp[List.getD,hj]
 have hm:=List.getElem_mem hj;rw[e];obtain⟨h1,h2⟩:=List.mem_filter.1 hm;exact⟨List.mem_range.1 h1,h2⟩
theorem Lj{keep:Nat->Bool}(hi:i<n)(hk:keep i=true):∃j,j<(Em n keep).length/\(Em n keep).getD j 0=i:=by
 have hm:i∈Em n keep:=List.mem_filter.2 ⟨List.mem_range.2 hi,hk⟩;obtain⟨j,hj,e⟩:=List.getElem_of_mem hm;exact⟨j,hj,by simp[List.getD,hj,e]⟩
theorem Le{keep:Nat->Bool}{a b:Nat}(hab:a<b)(hb:b<(Em n keep).length):(Em n keep).getD a 0<(Em n keep).getD b 0:=by
 have hp:(Em n keep).Pairwise (· <·):=List.Pairwise.sublist List.filter_sublist (List.pairwise_lt_range (n:=n));have:=List.pairwise_iff_getElem.1 hp a b (by omega) hb hab;simpa[List.getD,hb,show a<(Em n keep).length by omega]using this
theorem VT.cut(h:VT k){keep:Nat->Bool}(k0:keep 0=true)(hup:∀i p,0<i->i<k.on->p<k.on->(k.O p).id=(k.O i).up->keep i=true->keep p=true):VT (k.cut keep):=by
 have lo:=h.lo;obtain⟨z,z1,z2⟩:=Lj (keep:=keep) (show 0<k.on by omega) k0;have zz:z=0:=by
  by_cases e:z=0
  ·exact e
  ·have:=Le (n:=k.on) (keep:=keep) (a:=0) (b:=z) (by omega) z1;omega
 rw[zz]at z1 z2;have eO:∀j,(k.cut keep).O j=k.O ((Em k.on keep).getD j 0):=fun _=>rfl;have e0:(k.cut keep).O 0=k.O 0:=by rw[eO,z2]
 have pos:∀{j},0<j->j<(Em k.on keep).length->0<(Em k.on keep).getD j 0:=fun{j} j0 hj=>by
  have:=Le (n:=k.on) (keep:=keep) (a:=0) (b:=j) j0 hj;omega
 have stay:∀{y:Int},Wq k.on k.O y->∀i,i<k.on->(k.O i).id=y->keep i=true->Wq (Em k.on keep).length (k.cut keep).O y:=fun{y} hy=>by
  induction hy with
  |root=>intro i _ _ _;rw[<-e0];exact .root
  |@up j j0 hj hu ih=>
   intro i hi e hk;have:i=j:=h.rise.inj hi hj e;subst this;obtain⟨m,m1,m2⟩:=Lj (keep:=keep) hi hk;have em:(k.cut keep).O m=k.O i:=(by rw[eO,m2]);rw[<-em];have m0:0<m:=by
    by_cases e:m=0
    ·rw[e,z2]at m2;omega
    ·omega
   refine .up m0 m1 ?_;rw[em];obtain⟨p,p1,p2,_⟩:=h.box i j0 hj;exact ih p p1 p2 (hup i p j0 hj p1 p2 hk)
 refine⟨h.thr,z1,?_,fun j hj=>?_,fun a b hab hb=>?_,fun j j0 hj=>?_,fun j j0 hj=>?_,fun j hj=>?_⟩
 ·rw[e0];exact h.root
 ·rw[eO];exact h.obj _ (Gi hj).1
 ·simp only;rw[eO,eO];exact h.rise _ _ (Le hab hb) (Gi hb).1
 ·rw[eO];exact h.num _ (pos j0 hj) (Gi hj).1
 ·rw[eO];obtain⟨p,p1,p2,p3⟩:=h.box _ (pos j0 hj) (Gi hj).1;obtain⟨m,m1,m2⟩:=Lj (keep:=keep) p1 (hup _ p (pos j0 hj) (Gi hj).1 p1 p2 (Gi hj).2);exact⟨m,m1,by rw[eO,m2];exact p2,by rw[eO,m2];exact p3⟩
 ·rw[eO];exact stay (h.reach _ (Gi hj).1) _ (Gi hj).1 rfl (Gi hj).2
open Go.RowKit Go.Deep Go.Maps Go.Proofs.Tryz
open Go.WideShapes (add_plain)
variable {w:World}{B n:Nat}{f g:Nat->Int}
def Cw(f g:Nat->Int)(n:Nat):List Value:=(List.range (n*2)).map (Dp f g)
theorem CO(f g:Nat->Int)(n:Nat):(Cw f g n).length=n*2:=by simp[Cw]
theorem DU(f g:Nat->Int)(n j:Nat)(h:j<n*2):(Cw f g n)[j]? =some (Dp f g j):=by simp[Cw,h]
theorem Tc(f g:Nat->Int)(n:Nat):∀u∈Cw f g n,u.oneCell'=true:=by
 intro u hu;obtain⟨j,_,rfl⟩:=List.mem_map.1 hu;unfold Dp;split<;>rfl
def glue(n:Nat)(f f':Nat->Int)(i:Nat):Int:=if i<n then f i else f' (i-n)
theorem JE(f g f' g':Nat->Int)(n m:Nat):Cw f g n++Cw f' g' m=Cw (glue n f f') (glue n g g') (n+m):=by
 apply List.ext_getElem?;intro j;by_cases h1:j<n*2
 ·rw[List.getElem?_append_left (by rw[CO];exact h1),DU _ _ _ _ h1,DU _ _ _ _ (by omega)];have:j/2<n:=by omega
  simp[Dp,glue,this]
 ·rw[List.getElem?_append_right (by rw[CO];omega),CO];by_cases h2:j<(n+m)*2
  ·rw[DU _ _ _ _ (by omega),DU _ _ _ _ h2];have a1:¬j/2<n:=(by omega);have a2:(j-n*2)/2=j/2-n:=(by omega);have a3:(j-n*2)%2=j%2:=(by omega);simp[Dp,glue,a1,a2,a3]
  ·rw[List.getElem?_eq_none (by rw[CO];omega),List.getElem?_eq_none (by rw[CO];omega)]
def As(w:World)(B:Nat)(v:Value)(n:Nat)(f g:Nat->Int):Prop:=w.ownsRow B 96 2 v n (Cw f g n)
theorem As.nil(w:World)(B:Nat)(f g:Nat->Int):As w B (.slice none 0 0) 0 f g:=World.ownsRow_nil _ _ _ _
theorem As.cats{c:Nat}{a:Option Addr}(h:As w B (.slice a n c) n f g):Bi w a n f g:=fun hn=>by
 obtain⟨gb,cap,hv,_,hlt⟩:=World.ownsRow.form h hn;simp only[Value.slice.injEq]at hv;obtain⟨rfl,_,_⟩:=hv;have hc:=World.ownsRow.cells h (g:=gb) rfl;refine⟨gb,0,rfl,hlt,fun i hi=>⟨?_,?_⟩⟩
 ·have t:=hc (i*2) _ (DU f g n (i*2) (by omega));rw[add_plain]at t;rw[t];have e1:i*2%2=0:=by omega
  have e2:i*2/2=i:=by omega
  simp only[Dp,e1,e2,if_true]
 ·have t:=hc (i*2+1) _ (DU f g n (i*2+1) (by omega));rw[add_plain,<-Nat.add_assoc]at t;rw[t];have e1:¬(i*2+1)%2=0:=by omega
  have e2:(i*2+1)/2=i:=by omega
  simp only[Dp,e2,if_neg e1]
theorem As.shape{v:Value}(h:As w B v n f g):∃a c,v= .slice a n c:=by
 rcases h.2 with⟨rfl,rfl⟩|⟨gb,cap,cur,rfl,_⟩
 ·exact⟨_,_,rfl⟩
 ·exact⟨_,_,rfl⟩
theorem SH{b off m:Nat}(h:∀i,i<m->w.cell? ⟨b,off+i*2,none⟩=some (.int .i64 (f i))/\w.cell? ⟨b,off+i*2+1,none⟩=some (.int .i64 (g i))):
 ∀j u,(Cw f g m)[j]? =some u->w.cell? ((⟨b,off,none⟩:Addr).add j)=some u:=by
 intro j u hu;have hj:j<m*2:=by
  apply Nat.lt_of_not_le;intro hle;rw[List.getElem?_eq_none (by rw[CO];exact hle)]at hu;cases hu
 rw[DU _ _ _ _ hj]at hu;cases hu;obtain⟨h1,h2⟩:=h (j/2) (by omega);rw[add_plain];rcases Nat.mod_two_eq_zero_or_one j with e|e
 ·have e2:off+j/2*2=off+j:=by omega
  rw[e2]at h1;rw[h1];simp[Dp,e]
 ·have e2:off+j/2*2+1=off+j:=by omega
  rw[e2]at h2;rw[h2];simp[Dp,e]
theorem GY(w:World)(ty B:Nat)(v:Value)(n:Nat)(f g:Nat->Int)(hown:As w B v n f g)(a:Addr)(m c:Nat)(f' g':Nat->Int)
 (hnews:∀j u,(Cw f' g' m)[j]? =some u->w.cell? (a.add j)=some u)(hm:n+m<=4194304)(hB:B<=w.heap.size):
 ∃a' c' w',(Builtin.append_ #[42,42] ty #[v,.slice (some a) m c]).run prog w= .ok (.slice a' (n+m) c') w'/\As w' B (.slice a' (n+m) c') (n+m) (glue n f f') (glue n g g')/\w.grownBy w' v.ownBlock/\
  ((Value.slice a' (n+m) c').ownBlock=v.ownBlock∨(Value.slice a' (n+m) c').ownBlock=some w):=by
 obtain⟨i0,hi,hz0,hz1,hz2⟩:=info_parts Tryz.info96;obtain⟨v',w',hr,h2,h3,_,h5⟩:=run_append_own_at (P:=prog) w B 42 ty 96 i0 _ 2 16 underlying42 hi hz0 hz1 hz2 rfl (by omega) v n (Cw f g n) hown a m c (Cw f' g' m) (CO _ _ _) hnews (Tc _ _ _) (by unfold maxLen;omega) (by omega) hB;rw[JE]at h2;obtain⟨a',c',rfl⟩:=As.shape h2;exact⟨a',c',w',hr,h2,h3,h5⟩
theorem Np(w:World)(ty B:Nat)(v:Value)(n:Nat)(f g:Nat->Int)(hown:As w B v n f g)(ad:Option Addr)(m c:Nat)(f' g':Nat->Int)(hc:Bi w ad m f' g')
 (hm:n+m<=4194304)(hB:B<=w.heap.size):
 ∃a' c' w',(Builtin.append_ #[42,42] ty #[v,.slice ad m c]).run prog w= .ok (.slice a' (n+m) c') w'/\As w' B (.slice a' (n+m) c') (n+m) (glue n f f') (glue n g g')/\w.grownBy w' v.ownBlock/\
  ((Value.slice a' (n+m) c').ownBlock=v.ownBlock∨(Value.slice a' (n+m) c').ownBlock=some w):=by
 by_cases h0:0<m
 ·obtain⟨b,off,rfl,_,hcc⟩:=hc h0;exact GY w ty B v n f g hown _ m c f' g' (SH hcc) hm hB
 ·obtain rfl:m=0:=by omega
  cases ad with
  |some a=>exact GY w ty B v n f g hown a 0 c f' g' (fun j u hu=>by simp[Cw]at hu) hm hB
  |none=>
   obtain⟨i0,hi,hz0,hz1,hz2⟩:=info_parts Tryz.info96;have e:=JE f g f' g' n 0;have e0:Cw f' g' 0=[]:=rfl;rw[e0,List.append_nil]at e;have hown':=hown;unfold As at hown' ⊢;rw[e]at hown';obtain⟨a',c',rfl⟩:=As.shape hown;refine⟨a',c',w,?_,hown',⟨rfl,rfl,rfl,Nat.le_refl _,fun _ _ _=>rfl⟩,.inl rfl⟩;obtain⟨_,hx⟩:=hown;rcases hx with⟨hv,rfl⟩|⟨gb,cap,cur,hv,_,_,hnc,_⟩
   ·simp only[Value.slice.injEq]at hv;obtain⟨rfl,_,rfl⟩:=hv;simp[Builtin.append_,run_underlying underlying42,sizeOf,typeInfo,hi,Builtin.lenOf,Builtin.firstCells]
   ·simp only[Value.slice.injEq]at hv;obtain⟨rfl,_,rfl⟩:=hv;simp[Builtin.append_,run_underlying underlying42,sizeOf,typeInfo,hi,Builtin.lenOf,Builtin.firstCells,hnc,storeCells]
theorem J7{o:Oper}{a:Act}{K:Act->World->Prop}{Q:Exit->Act->World->Prop}(w:World)(s x:Operand)
 (ho:o.op= .call {callee:= .builtin .append,args:=#[s,x],argTypes:=#[42,42]})
 (B:Nat)(v:Value)(n:Nat)(f g:Nat->Int)(hs:a.eval s=v)(hown:As w B v n f g)(ad:Option Addr)(m c:Nat)(f' g':Nat->Int)(hx:a.eval x= .slice ad m c)(hc:Bi w ad m f' g')
 (hm:n+m<=4194304)(hB:B<=w.heap.size)
 (h:∀a' c' w',As w' B (.slice a' (n+m) c') (n+m) (glue n f f') (glue n g g')->w.grownBy w' v.ownBlock->((Value.slice a' (n+m) c').ownBlock=v.ownBlock∨(Value.slice a' (n+m) c').ownBlock=some w)->K (a.put o.dst (.slice a' (n+m) c')) w'):o.wp prog a w K Q:=by
 obtain⟨a',c',w',hr,h2,h3,h4⟩:=Np w o.type B v n f g hown ad m c f' g' hc hm hB;unfold Oper.wp execOp;simp only[ho,resolve,invoke,builtin,Sem.run_bind,Sem.run_pure,Result.andThen_ok,List.map_toArray,List.map_cons,List.map_nil,hs,hx,hr];exact h a' c' w' h2 h3 h4
theorem Cy{ops:Array Oper}{rest:List Oper}{o:Oper}{a:Act}{Q:Exit->Act->World->Prop}(w:World)(hgd:o.guard=none)(s x:Operand)
 (ho:o.op= .call {callee:= .builtin .append,args:=#[s,x],argTypes:=#[42,42]})
 (B:Nat)(v:Value)(n:Nat)(f g:Nat->Int)(hs:a.eval s=v)(hown:As w B v n f g)(ad:Option Addr)(m c:Nat)(f' g':Nat->Int)(hx:a.eval x= .slice ad m c)(hc:Bi w ad m f' g')
 (hm:n+m<=4194304)(hB:B<=w.heap.size)
 (h:∀a' c' w',As w' B (.slice a' (n+m) c') (n+m) (glue n f f') (glue n g g')->w.grownBy w' v.ownBlock->((Value.slice a' (n+m) c').ownBlock=v.ownBlock∨(Value.slice a' (n+m) c').ownBlock=some w)->wpList prog ops Q rest (a.put o.dst (.slice a' (n+m) c')) w'):wpList prog ops Q (o::rest) a w:=
 wpList_plain hgd fun _ hK=>J7 w s x ho B v n f g hs hown ad m c f' g' hx hc hm hB fun a' c' w' h2 h3 h4=>hK _ _ (h a' c' w' h2 h3 h4)
theorem Ez{ops:Array Oper}{o:Oper}{a:Act}{K:Act->World->Prop}{Q:Exit->Act->World->Prop}{E:Prop}(w:World)(hgd:o.guard=none)(s x:Operand)
 (ho:o.op= .call {callee:= .builtin .append,args:=#[s,x],argTypes:=#[42,42]})
 (B:Nat)(v:Value)(n:Nat)(f g:Nat->Int)(hs:a.eval s=v)(hown:As w B v n f g)(ad:Option Addr)(m c:Nat)(f' g':Nat->Int)(hx:a.eval x= .slice ad m c)(hc:Bi w ad m f' g')
 (hm:n+m<=4194304)(hB:B<=w.heap.size)
 (h:∀a' c' w',As w' B (.slice a' (n+m) c') (n+m) (glue n f f') (glue n g g')->w.grownBy w' v.ownBlock->((Value.slice a' (n+m) c').ownBlock=v.ownBlock∨(Value.slice a' (n+m) c').ownBlock=some w)->K (a.put o.dst (.slice a' (n+m) c')) w'):
 if Region.wanted o (yielded ops a.tmps)=true then Oper.wp prog o a w K Q else E:=by
 have hw:Region.wanted o (yielded ops a.tmps)=true:=by simp[Region.wanted,hgd]
 rw[if_pos hw];exact J7 w s x ho B v n f g hs hown ad m c f' g' hx hc hm hB h
theorem Rt(f f':Nat->Int):glue 0 f f'=f':=by funext i;simp[glue]
theorem Ig{ops:Array Oper}{o:Oper}{a:Act}{K:Act->World->Prop}{Q:Exit->Act->World->Prop}{E:Prop}(w:World)(hgd:o.guard=none)(s x:Operand)
 (ho:o.op= .call {callee:= .builtin .append,args:=#[s,x],argTypes:=#[42,42]})
 (B:Nat)(v:Value)(f g:Nat->Int)(hs:a.eval s=v)(hown:As w B v 0 f g)(ad:Option Addr)(m c:Nat)(f' g':Nat->Int)(hx:a.eval x= .slice ad m c)(hc:Bi w ad m f' g')
 (hm:m<=4194304)(hB:B<=w.heap.size)
 (h:∀a' c' w',As w' B (.slice a' m c') m f' g'->w.grownBy w' v.ownBlock->((Value.slice a' m c').ownBlock=v.ownBlock∨(Value.slice a' m c').ownBlock=some w)->K (a.put o.dst (.slice a' m c')) w'):
 if Region.wanted o (yielded ops a.tmps)=true then Oper.wp prog o a w K Q else E:=by
 refine Ez w hgd s x ho B v 0 f g hs hown ad m c f' g' hx hc (by omega) hB ?_;rw[Rt,Rt,Nat.zero_add];exact h
open Go
open Go.WideShapes (add_plain)
def Bh(w:World)(ad:Option Addr)(n:Nat)(cs:List Value):Prop:=
 0<n->∃b off,ad=some ⟨b,off,none⟩/\b<w.heap.size/\∀j u,cs[j]? =some u->w.cell? ⟨b,off+j,none⟩=some u
theorem Bh.below{w w':World}{ad:Option Addr}{n:Nat}{cs:List Value}(h:Bh w ad n cs)(hb:Below w w w'):Bh w' ad n cs:=fun hn=>by
 obtain⟨b,off,e,hlt,hc⟩:=h hn;exact⟨b,off,e,Nat.lt_of_lt_of_le hlt hb.size,fun j u hu=>(hb.cell (p:=⟨b,off+j,none⟩) hlt).trans (hc j u hu)⟩
theorem Bh.own{w:World}{B e size n c:Nat}{a:Option Addr}{cs:List Value}(h:w.ownsRow B e size (.slice a n c) n cs):Bh w a n cs:=fun hn=>by
 obtain⟨gb,cap,hv,_,hlt⟩:=World.ownsRow.form h hn;simp only[Value.slice.injEq]at hv;obtain⟨rfl,_,_⟩:=hv;have hc:=World.ownsRow.cells h (g:=gb) rfl;refine⟨gb,0,rfl,hlt,fun j u hu=>?_⟩;have t:=hc j u hu;rw[add_plain]at t;exact t
theorem Cp{w:World}{B e size n:Nat}{v:Value}{cs:List Value}(h:w.ownsRow B e size v n cs):∃a c,v= .slice a n c:=by
 rcases h.2 with⟨rfl,rfl⟩|⟨gb,cap,cur,rfl,_⟩
 ·exact⟨_,_,rfl⟩
 ·exact⟨_,_,rfl⟩
section
variable {t e size bytes:Nat}{z:Value} (hT:prog.underlying t=some (.slice e)) (hI:(prog.info? e).map (fun i=>(i.zero,i.size,i.bytes))=some (some z,size,bytes)) (hzs:z.cells.size=size) (hsz:0<size)
include hT hI hzs hsz
theorem FK(w:World)(ty B:Nat)(v:Value)(n:Nat)(cs:List Value)(hown:w.ownsRow B e size v n cs)(ad:Option Addr)(m c:Nat)(cs':List Value)(hl:cs'.length=m*size)(hc:Bh w ad m cs')(h1:∀u∈cs',u.oneCell'=true)
 (hm:n+m<=4194304)(hby:(n+m)*bytes<=140737488355328)(hB:B<=w.heap.size):
 ∃a' c' w',(Builtin.append_ #[t,t] ty #[v,.slice ad m c]).run prog w= .ok (.slice a' (n+m) c') w'/\w'.ownsRow B e size (.slice a' (n+m) c') (n+m) (cs++cs')/\w.grownBy w' v.ownBlock/\
  ((Value.slice a' (n+m) c').ownBlock=v.ownBlock∨(Value.slice a' (n+m) c').ownBlock=some w):=by
 obtain⟨i0,hi,hz0,hz1,hz2⟩:=info_parts hI;have some':∀a:Addr,(∀j u,cs'[j]? =some u->w.cell? (a.add j)=some u)->∃a' c' w',(Builtin.append_ #[t,t] ty #[v,.slice (some a) m c]).run prog w= .ok (.slice a' (n+m) c') w'/\w'.ownsRow B e size (.slice a' (n+m) c') (n+m) (cs++cs')/\w.grownBy w' v.ownBlock/\
  ((Value.slice a' (n+m) c').ownBlock=v.ownBlock∨(Value.slice a' (n+m) c').ownBlock=some w):=fun a hnews=>by
  obtain⟨v',w',hr,h2,h3,_,h5⟩:=run_append_own_at (P:=prog) w B t ty e i0 _ size bytes hT hi hz0 hz1 hz2 hzs hsz v n cs hown a m c cs' hl hnews h1 (by unfold maxLen;omega) hby hB;obtain⟨a',c',rfl⟩:=Cp h2;exact⟨a',c',w',hr,h2,h3,h5⟩
 by_cases h0:0<m
 ·obtain⟨b,off,rfl,_,hcc⟩:=hc h0;exact some' _ (fun j u hu=>by rw[add_plain];exact hcc j u hu)
 ·obtain rfl:m=0:=by omega
  have e0:cs'=[]:=List.eq_nil_of_length_eq_zero (by omega);subst e0;cases ad with
  |some a=>exact some' a (fun j u hu=>by simp at hu)
  |none=>
   obtain⟨a',c',rfl⟩:=Cp hown;rw[List.append_nil];refine⟨a',c',w,?_,hown,⟨rfl,rfl,rfl,Nat.le_refl _,fun _ _ _=>rfl⟩,.inl rfl⟩;obtain⟨_,hx⟩:=hown;rcases hx with⟨hv,rfl⟩|⟨gb,cap,cur,hv,_,_,hnc,_⟩
   ·simp only[Value.slice.injEq]at hv;obtain⟨rfl,_,rfl⟩:=hv;simp[Builtin.append_,run_underlying hT,sizeOf,typeInfo,hi,Builtin.lenOf,Builtin.firstCells]
   ·simp only[Value.slice.injEq]at hv;obtain⟨rfl,_,rfl⟩:=hv;simp[Builtin.append_,run_underlying hT,sizeOf,typeInfo,hi,Builtin.lenOf,Builtin.firstCells,hnc,storeCells]
theorem BR{o:Oper}{a:Act}{K:Act->World->Prop}{Q:Exit->Act->World->Prop}(w:World)(s x:Operand)
 (ho:o.op= .call {callee:= .builtin .append,args:=#[s,x],argTypes:=#[t,t]})
 (B:Nat)(v:Value)(n:Nat)(cs:List Value)(hs:a.eval s=v)(hown:w.ownsRow B e size v n cs)(ad:Option Addr)(m c:Nat)(cs':List Value)(hx:a.eval x= .slice ad m c)(hl:cs'.length=m*size)(hc:Bh w ad m cs')(h1:∀u∈cs',u.oneCell'=true)
 (hm:n+m<=4194304)(hby:(n+m)*bytes<=140737488355328)(hB:B<=w.heap.size)
 (h:∀a' c' w',w'.ownsRow B e size (.slice a' (n+m) c') (n+m) (cs++cs')->w.grownBy w' v.ownBlock->((Value.slice a' (n+m) c').ownBlock=v.ownBlock∨(Value.slice a' (n+m) c').ownBlock=some w)->K (a.put o.dst (.slice a' (n+m) c')) w'):o.wp prog a w K Q:=by
 obtain⟨a',c',w',hr,h2,h3,h4⟩:=FK hT hI hzs hsz w o.type B v n cs hown ad m c cs' hl hc h1 hm hby hB;unfold Oper.wp execOp;simp only[ho,resolve,invoke,builtin,Sem.run_bind,Sem.run_pure,Result.andThen_ok,List.map_toArray,List.map_cons,List.map_nil,hs,hx,hr];exact h a' c' w' h2 h3 h4
end
def AQ(w:World)(B:Nat)(v:Value)(l:List Int):Prop:=w.ownsRow B 2 1 v l.length (l.map (Value.int .i64))
def D9(w:World)(ad:Option Addr)(l:List Int):Prop:=Bh w ad l.length (l.map (Value.int .i64))
theorem D9.below{w w':World}{ad:Option Addr}{l:List Int}(h:D9 w ad l)(hb:Below w w w'):D9 w' ad l:=Bh.below h hb
theorem AQ.lies{w:World}{B c:Nat}{a:Option Addr}{l:List Int}(h:AQ w B (.slice a l.length c) l):D9 w a l:=Bh.own h
theorem AQ.nil(w:World)(B:Nat):AQ w B (.slice none 0 0) []:=World.ownsRow_nil _ _ _ _
theorem AQ.made(w:World)(B:Nat)(hb:B<=w.heap.size):AQ (w.alloc (.cells #[] 2)) B (.slice (w) 0 0) []:=World.ownsRow_made w #[] 0 hb (Nat.zero_le _) rfl
theorem AQ.alloc{w:World}{B:Nat}{v:Value}{l:List Int}(h:AQ w B v l)(o:Obj):AQ (w.alloc o) B v l:=World.ownsRow.alloc h o
def Bl(l:List Int)(i:Nat):Int:=l.getD i 0
theorem D9.ints{w:World}{ad:Option Addr}{l:List Int}(h:D9 w ad l):Ce w ad l.length (Bl l):=fun hn=>by
 obtain⟨b,off,e,hlt,hc⟩:=h hn;exact⟨b,off,e,hlt,fun i hi=>hc i _ (by simp[Bl,hi])⟩
theorem Ce.intL{w:World}{ad:Option Addr}{n:Nat}{h:Nat->Int}(hc:Ce w ad n h):D9 w ad ((List.range n).map h):=fun hn=>by
 have hn':0<n:=by simpa using hn
 obtain⟨b,off,e,hlt,hcc⟩:=hc hn';refine⟨b,off,e,hlt,fun j u hu=>?_⟩;by_cases hj:j<n
 ·simp[hj]at hu;rw[<-hu];exact hcc j hj
 ·simp[hj]at hu
theorem DX{ops:Array Oper}{rest:List Oper}{o:Oper}{a:Act}{Q:Exit->Act->World->Prop}(w:World)(hgd:o.guard=none)(s x:Operand)
 (ho:o.op= .call {callee:= .builtin .append,args:=#[s,x],argTypes:=#[45,45]})
 (B:Nat)(v:Value)(l:List Int)(hs:a.eval s=v)(hown:AQ w B v l)(ad:Option Addr)(m c:Nat)(l':List Int)(hx:a.eval x= .slice ad m c)(hm':l'.length=m)(hc:D9 w ad l')
 (hm:l.length+m<=4194304)(hB:B<=w.heap.size)
 (h:∀a' c' w',AQ w' B (.slice a' (l++l').length c') (l++l')->w.grownBy w' v.ownBlock->((Value.slice a' (l++l').length c').ownBlock=v.ownBlock∨(Value.slice a' (l++l').length c').ownBlock=some w)->wpList prog ops Q rest (a.put o.dst (.slice a' (l++l').length c')) w'):wpList prog ops Q (o::rest) a w:=by
 subst hm';refine wpList_plain hgd fun _ hK=>BR underlying45 Tryz.info2 rfl (by omega) w s x ho B v l.length _ hs hown ad l'.length c _ hx (by simp) hc (fun u hu=>by obtain⟨y,_,rfl⟩:=List.mem_map.1 hu;rfl) hm (by omega) hB fun a' c' w' h2 h3 h4=>hK _ _ ?_;rw[<-List.map_append,<-List.length_append]at h2;rw[<-List.length_append]at h4 ⊢;exact h a' c' w' h2 h3 h4
theorem AS{ops:Array Oper}{rest:List Oper}{o:Oper}{a:Act}{Q:Exit->Act->World->Prop}(w:World)(hgd:o.guard=none)(s x:Operand)
 (ho:o.op= .call {callee:= .builtin .append,args:=#[s,x],argTypes:=#[45,45]})
 (B:Nat)(v:Value)(l:List Int)(hs:a.eval s=v)(hown:AQ w B v l)(ad:Option Addr)(m c:Nat)(l':List Int)(hx:a.eval x= .slice ad m c)(hm':l'.length=m)(hc:D9 w ad l')(R:List Int)(hR:R=l++l')
 (hm:R.length<=4194304)(hB:B<=w.heap.size)
 (h:∀a' c' w',AQ w' B (.slice a' R.length c') R->w.grownBy w' v.ownBlock->((Value.slice a' R.length c').ownBlock=v.ownBlock∨(Value.slice a' R.length c').ownBlock=some w)->wpList prog ops Q rest (a.put o.dst (.slice a' R.length c')) w'):wpList prog ops Q (o::rest) a w:=by
 subst hR;exact DX w hgd s x ho B v l hs hown ad m c l' hx hm' hc (by rw[List.length_append]at hm;omega) hB h
theorem D9.take{w:World}{b off:Nat}{l:List Int}(h:D9 w (some ⟨b,off,none⟩) l)(k:Nat):D9 w (some ⟨b,off,none⟩) (l.take k):=fun hn=>by
 have hl:0<l.length:=by simp at hn;omega
 obtain⟨b',off',e,hlt,hc⟩:=h hl;cases e;refine⟨b,off,rfl,hlt,fun j u hu=>hc j u ?_⟩;rw[List.map_take,List.getElem?_take]at hu;split at hu
 ·exact hu
 ·cases hu
theorem D9.drop{w:World}{b off:Nat}{l:List Int}(h:D9 w (some ⟨b,off,none⟩) l)(k:Nat):D9 w (some ⟨b,off+k,none⟩) (l.drop k):=fun hn=>by
 have hl:0<l.length:=by simp at hn;omega
 obtain⟨b',off',e,hlt,hc⟩:=h hl;cases e;refine⟨b,off+k,rfl,hlt,fun j u hu=>?_⟩;rw[List.map_drop,List.getElem?_drop]at hu;have:=hc (k+j) u hu;rw[Nat.add_assoc];exact this
theorem D9.one{w:World}(x:Int):D9 (w.alloc (.cells #[.int .i64 x] 2)) (some ⟨w,0,none⟩) [x]:=fun _=>
 ⟨w,0,rfl,by simp,fun j u hu=>by
   cases j with
   |zero=>simp at hu;subst hu;simp
   |succ j=>simp at hu⟩
theorem D9.none(w:World)(ad:Option Addr):D9 w ad []:=fun h=>by simp at h
end Go.Proofs.YtblapfnglojgjaaGreatDoor
