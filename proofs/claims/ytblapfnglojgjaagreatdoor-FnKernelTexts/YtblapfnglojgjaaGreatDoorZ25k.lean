import Derived.Test.YtblapfnglojgjaaGreatDoorZ20k
set_option maxRecDepth 100000
set_option maxHeartbeats 8000000
namespace Go.Proofs.YtblapfnglojgjaaGreatDoor
open Go Go.RowKit Go.Deep Go.Maps
theorem Ae.same.refl(t:Ae):t.same t:=⟨rfl,rfl,rfl,rfl,⟨rfl,rfl,rfl⟩,rfl,⟨rfl,rfl⟩,⟨rfl,rfl⟩,rfl,⟨rfl,rfl,rfl⟩⟩
theorem Ae.new.below{B:Nat}{w w':World}{t:Ae}(h:t.new B w)(hb:Below w w w'):t.new B w':=⟨h.1.below hb,h.2.1.below hb,h.2.2.1.below hb,h.2.2.2.below hb⟩
theorem TV{n:Nat}{h:Nat->Int}:((List.range n).map h).Pairwise (· <·)↔∀i j,i<j->j<n->h i<h j:=by
 rw[List.pairwise_iff_getElem];constructor
 ·intro H i j hij hj;have:=H i j (by simp;omega) (by simp;omega) hij;simpa using this
 ·intro H i j hi hj hij;simp at hi hj;simpa using H i j hij hj
theorem Ic{n:Nat}{h:Nat->Int}:Cg n h=true↔n<=10/\((List.range n).map h).Pairwise (· <·)/\∀x∈(List.range n).map h,1<=x/\x<=9999:=by
 unfold Cg;simp only[Bool.and_eq_true,decide_eq_true_eq,List.all_eq_true,List.mem_range];constructor
 ·rintro⟨h1,h2⟩;refine⟨h1,?_,?_⟩
  ·rw[TV];refine LG (fun i i0 hi=>?_);have:=h2 i hi;unfold Ds at this;simp only[Bool.and_eq_true,Bool.or_eq_true,decide_eq_true_eq,beq_iff_eq]at this;rcases this.2 with e|e
   ·omega
   ·exact e
  ·intro x hx;obtain⟨i,hi,rfl⟩:=List.mem_map.1 hx;have:=h2 i (List.mem_range.1 hi);unfold Ds at this;simp only[Bool.and_eq_true,Cv]at this;exact this.1
 ·rintro⟨h1,h2,h3⟩;refine⟨h1,fun i hi=>?_⟩;rw[TV]at h2;unfold Ds;simp only[Bool.and_eq_true,Bool.or_eq_true,decide_eq_true_eq,beq_iff_eq,Cv];refine⟨h3 _ (List.mem_map.2 ⟨i,List.mem_range.2 hi,rfl⟩),?_⟩;by_cases e:i=0
  ·exact .inl e
  ·exact .inr (h2 (i-1) i (by omega) hi)
theorem NJ{L:List Int}(h1:L.length<=10)(h2:L.Pairwise (· <·))(h3:∀x∈L,1<=x/\x<=9999):Cg L.length (Bl L)=true:=by
 rw[Ic,Ru];exact⟨h1,h2,h3⟩
theorem LF(t:Af):t.same t:=⟨rfl,rfl,⟨rfl,rfl,rfl⟩,rfl,⟨rfl,rfl,rfl⟩,⟨rfl,rfl⟩,rfl⟩
theorem VF{α:Type}{l:List α}{t j:Nat}{x z:α}(hj:j<l.length):(l.set t x).getD j z=if j=t then x else l.getD j z:=by
 rw[List.getD_eq_getElem?_getD,List.getD_eq_getElem?_getD,List.getElem?_set];by_cases e:t=j
 ·subst e;simp[hj]
 ·have e':¬j=t:=fun h=>e h.symm;simp[e,e']
section
variable {lt:List Af}{lo:List Ae} (ok:KU lt lo=true)
include ok
theorem JS{t:Nat}(ht:t<lt.length){x:Af}(hx:VG x)(hi:x.id=lt[t].id)(hm:lt[t].made<=x.made):KU (lt.set t x) lo=true:=by
 have e:(Dm none 0 none 0 lt lo).T t=lt[t]:=Gw ht;have k:=(Cl.1 ok).setT (t:=t) (JL.2 hx) (by rw[e];exact hi) (by rw[e];exact hm);have h:=Cl.2 k;refine(Du ?_).trans h;refine⟨by simp[Dm,AJ.setT],fun j hj=>?_,rfl,fun j hj=>Ae.same.refl _⟩;have hj':j<lt.length:=hj;have e2:(Dm none 0 none 0 (lt.set t x) lo).T j=((Dm none 0 none 0 lt lo).setT t x).T j:=VF hj';rw[e2];exact LF _
theorem Ma{u:Nat}(hu:u<lo.length){x:Ae}(hx:Qh x)(h1:x.id=lo[u].id)(h2:x.kind=lo[u].kind)(h3:x.up=lo[u].up):KU lt (lo.set u x)=true:=by
 have e:(Dm none 0 none 0 lt lo).O u=lo[u]:=BM hu;have k:=(Cl.1 ok).setO (i:=u) (J5.2 hx) (by rw[e];exact h1) (by rw[e];exact h2) (by rw[e];exact h3);have h:=Cl.2 k;refine(Du ?_).trans h;refine⟨rfl,fun j hj=>LF _,by simp[Dm,AJ.setO],fun j hj=>?_⟩;have hj':j<lo.length:=hj;have e2:(Dm none 0 none 0 lt (lo.set u x)).O j=((Dm none 0 none 0 lt lo).setO u x).O j:=VF hj';rw[e2];exact Ae.same.refl _
theorem JX:Aa lo 0=Aa lo 0/\(Aa lo 0).id=1/\(Aa lo 0).up=0:=by
 have r:=(Cl.1 ok).root;unfold FJ at r;simp only[Bool.and_eq_true,beq_iff_eq]at r;exact⟨rfl,r.1.1,r.2⟩
theorem aj{j:Nat}(hj:j<lo.length):1<=(Aa lo j).id:=by
 have r:=(JX ok).2.1;by_cases e:j=0
 ·subst e;omega
 ·have h:=(Cl.1 ok).rise 0 j (by omega) hj;have h':(Aa lo 0).id<(Aa lo j).id:=h;omega
end
theorem Oi(x:Ae):∀lo:List Ae,∃p,p<=lo.length/\Ej x lo=lo.take p++x::lo.drop p/\(∀j,j<p->¬x.id<(Aa lo j).id)/\(p<lo.length->x.id<(Aa lo p).id)
 |[]=>⟨0,Nat.le_refl _,rfl,fun j hj=>absurd hj (Nat.not_lt_zero j),fun h=>absurd h (Nat.not_lt_zero 0)⟩
 |y::r=>by
  by_cases h:x.id<y.id
  ·refine⟨0,Nat.zero_le _,by simp[Ej,h],fun j hj=>absurd hj (Nat.not_lt_zero j),fun _=>?_⟩;simpa[Aa]using h
  ·obtain⟨p,h1,h2,h3,h4⟩:=Oi x r;refine⟨p+1,by simpa using h1,by simp[Ej,h,h2],fun j hj=>?_,fun hp=>?_⟩
   ·cases j with
    |zero=>simpa[Aa]using h
    |succ j=>have:=h3 j (by omega);simpa[Aa]using this
   ·have:=h4 (by simpa using hp);simpa[Aa]using this
theorem ch{lo:List Ae}{p j:Nat}{x:Ae}(hp:p<=lo.length):Aa (lo.take p++x::lo.drop p) j=Gj (Aa lo) p x j:=by
 unfold Aa Gj;simp only[List.getD_eq_getElem?_getD];have lp:(lo.take p).length=p:=by simp[hp]
 by_cases h1:j<p
 ·rw[if_pos h1,List.getElem?_append_left (by omega),List.getElem?_take_of_lt h1]
 ·rw[if_neg h1,List.getElem?_append_right (by omega),lp];by_cases h2:j=p
  ·subst h2;simp
  ·rw[if_neg h2];obtain⟨m,rfl⟩:∃m,j=p+m+1:=⟨j-p-1,by omega⟩;have e:p+m+1-p=m+1:=(by omega);rw[e,List.getElem?_cons_succ,List.getElem?_drop];congr 2
theorem aK{lt:List Af}{lo:List Ae}(ok:KU lt lo=true){x:Ae}(hx:Qh x)(hn:FF lt.length (Bm lt) x.id=true){u:Nat}(hu:Nz lo x.up=some u)(hk:(Aa lo u).kind=3)(hne:∀j,j<lo.length->(Aa lo j).id≠x.id)(h1:1<x.id):KU lt (Ej x lo)=true:=by
 obtain⟨p,hp,e,lo',hi'⟩:=Oi x lo;have kk:=Cl.1 ok;have u1:=AZ hu;have p0:0<p:=by
  by_cases h:p=0
  ·subst h;have:=hi' (by have:=FR ok;omega);have:=(JX ok).2.1;omega
  ·omega
 have k:=kk.ins (p:=p) (x:=x) p0 hp (fun j hj=>by
  have h1:=lo' j hj;have h2:=hne j (by omega);show(Aa lo j).id<x.id;omega) (fun j hj hjn=>by
  have h0:=hi' (by have:j<lo.length:=hjn;omega);show x.id<(Aa lo j).id;by_cases ej:j=p
  ·subst ej;exact h0
  ·have h2:(Aa lo p).id<(Aa lo j).id:=kk.rise p j (by omega) hjn;omega) (J5.2 hx) hn ⟨u,u1.1,u1.2,hk⟩
 have h:=Cl.2 k;refine(Du ?_).trans h;have el:(Ej x lo).length=lo.length+1:=PZ;refine⟨rfl,fun j hj=>LF _,el,fun j hj=>?_⟩;have e2:(Dm none 0 none 0 lt (Ej x lo)).O j=((Dm none 0 none 0 lt lo).ins p x).O j:=by
  show Aa (Ej x lo) j=Gj (Aa lo) p x j;rw[e];exact ch hp
 rw[e2];exact Ae.same.refl _
theorem Zs{G:List Int}{x:Int}:hasB G.length (Bl G) x=true↔x∈G:=by
 unfold hasB;rw[List.any_eq_true];constructor
 ·rintro⟨i,hi,e⟩;have hi':=List.mem_range.1 hi;have:Bl G i=x:=by simpa using e
  rw[<-this];unfold Bl;rw[List.getD_eq_getElem?_getD,List.getElem?_eq_getElem hi'];exact List.getElem_mem hi'
 ·intro h;obtain⟨i,hi,e⟩:=List.mem_iff_getElem.1 h;exact⟨i,List.mem_range.2 hi,by simp[Bl,hi,e]⟩
theorem bT(lo:List Ae):(List.range lo.length).map (Aa lo)=lo:=by
 refine List.ext_getElem (by simp) (fun i h1 h2=>?_);simp[Aa,h2]
theorem ay{lt:List Af}{lo:List Ae}(ok:KU lt lo=true){x:Int}{u:Nat}(hu:Nz lo x=some u)(u0:0<u):KU lt (FG (Dy lo u) lo lo.length)=true:=by
 have kk:=Cl.1 ok;obtain⟨ul,_⟩:=AZ hu;have h0:∀j,j<lo.length->(fun i=>(Aa lo i).id) j≠(fun i=>(Aa lo i).up) 0:=fun j hj=>by
  have:=aj ok hj;have:=(JX ok).2.2;show(Aa lo j).id≠(Aa lo 0).up;omega
 have rise:Dt (fun i=>(Aa lo i).id) lo.length:=kk.rise;have hc:Iq (fun i=>(Aa lo i).id) (fun i=>(Aa lo i).up) lo.length u:=Mz ok ul;have gone:∀y,hasB (Dy lo u).length (Bl (Dy lo u)) y=true↔∃i,i<lo.length/\(∃m,m<lo.length/\Bn (fun i=>(Aa lo i).id) (fun i=>(Aa lo i).up) lo.length m i=some u)/\(Aa lo i).id=y:=by
  intro y;rw[Zs];unfold Dy;rw[Rv,List.mem_map];constructor
  ·rintro⟨i,hi,e⟩;have:=(Ef rise h0 ul).1 hi;exact⟨i,this.1,this.2,e⟩
  ·rintro⟨i,h1,h2,e⟩;exact⟨i,(Ef rise h0 ul).2 ⟨h1,h2⟩,e⟩
 have k:=kk.cut (keep:=fun i=> !hasB (Dy lo u).length (Bl (Dy lo u)) (Aa lo i).id) (by
  simp only[Bool.not_eq_true'];rw[<-Bool.not_eq_true,gone];rintro⟨i,hi,⟨m,_,hm⟩,e⟩;have e0:i=0:=rise.inj hi (by omega) e;subst e0;cases m with
  |zero=>simp[Bn]at hm;omega
  |succ m=>simp[Bn,Ky]at hm) (fun i p i0 hi hp e hk=>by
  simp only[Bool.not_eq_true']at hk ⊢;rw[<-Bool.not_eq_true,gone]at hk ⊢;rintro⟨j,hj,⟨m,_,hm⟩,ej⟩;have e1:j=p:=rise.inj hj hp ej;subst e1;refine hk ⟨i,hi,?_,rfl⟩;have pi:Ky (fun i=>(Aa lo i).id) (fun i=>(Aa lo i).up) lo.length i=some j:=by
   unfold Ky;rw[if_neg (by omega)];have e':(Aa lo i).up=(Aa lo j).id:=e.symm;show Bv (fun i=>(Aa lo i).id) lo.length (Aa lo i).up=some j;rw[e'];exact Dx rise hp
  have pm:Bn (fun i=>(Aa lo i).id) (fun i=>(Aa lo i).up) lo.length (1+m) i=some u:=by
   rw[Ew,Rm,pi];exact hm
  exact⟨1+m,Pm hc hi pm,pm⟩)
 have h:=Cl.2 k;refine(Du ?_).trans h;have es:FG (Dy lo u) lo lo.length=(Em lo.length (fun i=> !hasB (Dy lo u).length (Bl (Dy lo u)) (Aa lo i).id)).map (Aa lo):=by
  unfold FG Em;rw[List.take_length];generalize Dy lo u=G;have e1:lo.filter (fun o=> !hasB G.length (Bl G) o.id)=((List.range lo.length).map (Aa lo)).filter (fun o=> !hasB G.length (Bl G) o.id):=by rw[bT]
  rw[e1,List.filter_map];rfl
 refine⟨rfl,fun j hj=>LF _,by show(FG _ lo lo.length).length=_;rw[es];simp[AJ.cut,Dm],fun j hj=>?_⟩;have e2:(Dm none 0 none 0 lt (FG (Dy lo u) lo lo.length)).O j=((Dm none 0 none 0 lt lo).cut (fun i=> !hasB (Dy lo u).length (Bl (Dy lo u)) (Aa lo i).id)).O j:=by
  have hj':j<(Em lo.length (fun i=> !hasB (Dy lo u).length (Bl (Dy lo u)) (Aa lo i).id)).length:=hj;show Aa (FG (Dy lo u) lo lo.length) j=Aa lo ((Em lo.length (fun i=> !hasB (Dy lo u).length (Bl (Dy lo u)) (Aa lo i).id)).getD j 0);rw[es];rw[BM (by simpa using hj')];simp[hj']
 rw[e2];exact Ae.same.refl _
variable {n t:Nat}{X:Af}{lt lt':List Af}{L:List Int}{h:Nat->Int}{c:Int}{s:Bd}{lo lo':List Ae}{tx:ByteArray}{o:Ae}
theorem Oa{b:Int}{c d:AH}(h:c.same d)(hl:AO b c.n c.f c.g=true):AO b d.n d.f d.g=true:=by
 obtain⟨h1,h2,h3⟩:=h;rw[h1,h2,h3];exact hl
theorem Zp{T:Nat->Af}(h:Br n T=true):Dt (fun i=>(T i).id) n:=LG fun i i0 hi=>by
 have:=(Cx h).2.2 i hi;unfold Dw at this;simp only[Bool.and_eq_true,Bool.or_eq_true,decide_eq_true_eq,beq_iff_eq]at this;rcases this.2 with e|e
 ·omega
 ·exact e
theorem Xj(h:VG X):1001<=Cc X/\Cc X<=9999:=by
 have:=h.id;have:=h.made;unfold Cc;omega
theorem UZ(ht:t<lt.length):lt.set t lt[t]=lt:=J0 ht
theorem aV(h:VG X)(hn:¬X.own.n=10)(e:L=DW ((List.range X.own.n).map X.own.h) (Cc X)):Cg L.length (Bl L)=true:=by
 obtain⟨h1,h2,h3⟩:=Ic.1 h.own;subst e;refine NJ ?_ (Mv h2) (fun x hx=>?_)
 ·have:=LU ((List.range X.own.n).map X.own.h) (Cc X);simp at this;omega
 ·rcases Ox hx with hx|hx
  ·exact h3 x hx
  ·have:=Xj h;omega
theorem Zk{x:Int}(hx:x∈Dz h c n):x∈(List.range n).map h:=(List.mem_filter.1 hx).1
theorem ZE(ho:Cg n h=true):Cg (Dz h c n).length (Bl (Dz h c n))=true:=by
 obtain⟨h1,h2,h3⟩:=Ic.1 ho;refine NJ ?_ (h2.filter _) (fun x hx=>h3 x (Zk hx));have:=Ms h c n;omega
theorem Tr:∀{q:Nat}{x:Int},x∈FM L h q->x∈L∨∃i,i<q/\x=h i
 |0,x,hx=> .inl hx
 |q+1,x,hx=>by
  rcases Ox hx with hx|hx
  ·rcases Tr hx with hx|⟨i,hi,e⟩
   ·exact .inl hx
   ·exact .inr ⟨i,by omega,e⟩
  ·exact .inr ⟨q,by omega,hx⟩
theorem NT(hL:L.Pairwise (· <·)):∀q,(FM L h q).Pairwise (· <·)
 |0=>hL
 |q+1=>Mv (NT hL q)
theorem MO:Bp ⟨#[]⟩ 40=true:=by decide
theorem XP(sf:Yv s){d1 d2:AH}{ow:AU}(hk:s.kind=2∨s.kind=3∨s.kind=4∨s.kind=5)(e1:s.c1.same d1)(e2:if s.kind=5 then s.c2.same d2 else d2=Aq)(e3:if 0<s.cat then ow.n=1/\ow.h 0=s.cat else ow=FP):Qh (newObj X s d1 d2 ow):=by
 have hw:Cg ow.n ow.h=true:=by
  by_cases h:0<s.cat
  ·rw[if_pos h]at e3;have hc:=sf.cat;have e:(s.cat==0)=false:=(by simp only[beq_eq_false_iff_ne,ne_eq];omega);unfold ZK at hc;rw[e]at hc;simp only[Bool.false_eq_true,if_false,Bool.and_eq_true,Cv]at hc;rw[e3.1];simp[Cg,Ds,e3.2,Ed];omega
  ·rw[if_neg h]at e3;rw[e3];rfl
 have h2:AO (newObj X s d1 d2 ow).b2 d2.n d2.f d2.g=true:=by
  unfold newObj;by_cases h:s.kind=5
  ·rw[if_pos h]at e2;simp only[if_pos h];exact Oa e2 sf.l2
  ·rw[if_neg h]at e2;simp only[if_neg h];rw[e2];rfl
 refine⟨Oa e1 sf.l1,h2,hw,MO,rfl,?_⟩;have ce:=PS sf;have noCat:s.kind≠5->ow=FP:=fun h=>by
  have:=ce.1 (by omega);rw[if_neg (by omega)]at e3;exact e3
 unfold newObj Gk;rcases hk with h|h|h|h
 ·have e4:=noCat (by omega);rw[if_neg (by omega)]at e2;subst e2;subst e4;simp[h,Fh,Aq,FP]
 ·have e4:=noCat (by omega);rw[if_neg (by omega)]at e2;subst e2;subst e4;simp[h,Fh,Aq,FP]
 ·have e4:=noCat (by omega);rw[if_neg (by omega)]at e2;subst e2;subst e4;simp[h,Fh,Aq,FP]
 ·simp[h]
theorem YE(ok:KU lt lo=true)(ht:t<lt.length)(so:s.ok=true)(hk:s.kind=2∨s.kind=3∨s.kind=4∨s.kind=5)(p:Yr lt[t] s lt lo t c tx lt' lo'):KU lt' lo'=true:=by
 rcases p with⟨_,_,_,rfl,rfl⟩|⟨_,_,_,_,rfl,rfl⟩|⟨_,mb,m30,_,rfl,d1,d2,ow,e1,e2,e3,rfl⟩
 ·exact ok
 ·exact ok
 ·have X:=GD ok _ (List.getElem_mem ht);have m1:=X.made;have i1:=X.id;have ok1:=JS ok ht (x:=⟨lt[t].id,lt[t].b1,lt[t].c1,lt[t].b2,lt[t].c2,lt[t].own,lt[t].made+1⟩) ⟨X.id,X.l1,X.l2,X.own,by dsimp only;omega⟩ rfl (by dsimp only;omega);unfold Ut at mb;cases hu:Nz lo s.id with
  |none=>rw[hu]at mb;cases mb
  |some u=>
   rw[hu]at mb;simp only[Bool.and_eq_true,decide_eq_true_eq]at mb;have kk:=Cl.1 ok;have k1:=Cl.1 ok1;have nc:Cc lt[t]=1000*lt[t].id+lt[t].made+1:=rfl;refine aK ok1 (XP (UO so) hk e1 e2 e3) ?_ hu mb.1.1.1.1 (fun j hj=>?_) (by show 1<Cc lt[t];omega)
   ·have et:Bm (lt.set t (⟨lt[t].id,lt[t].b1,lt[t].c1,lt[t].b2,lt[t].c2,lt[t].own,lt[t].made+1⟩:Af)) t=⟨lt[t].id,lt[t].b1,lt[t].c1,lt[t].b2,lt[t].c2,lt[t].own,lt[t].made+1⟩:=by
     have:=VF (l:=lt) (t:=t) (j:=t) (x:=(⟨lt[t].id,lt[t].b1,lt[t].c1,lt[t].b2,lt[t].c2,lt[t].own,lt[t].made+1⟩:Af)) (z:=Af.z) ht;rw[if_pos rfl]at this;exact this
    refine Tz k1.thr (t:=t) (by simpa[Dm]using ht) ?_ ?_ ?_
    ·show(Bm _ t).id=Cc lt[t]/1000;rw[et];show lt[t].id=Cc lt[t]/1000;omega
    ·show 1<=Cc lt[t]%1000;omega
    ·show Cc lt[t]%1000<=(Bm _ t).made;rw[et];show Cc lt[t]%1000<=lt[t].made+1;omega
   ·intro e;have e':(Aa lo j).id=Cc lt[t]:=e;by_cases h0:j=0
    ·subst h0;have:=(JX ok).2.1;omega
    ·obtain⟨t',h1,h2,h3,h4⟩:=GV kk.thr (kk.num j (by omega) hj);have g1:(Bm lt t').id=(Aa lo j).id/1000:=h2;have g2:(Aa lo j).id%1000<=(Bm lt t').made:=h4;have g3:(Bm lt t).id=lt[t].id:=(by rw[Gw ht]);have e3:t'=t:=(Zp kk.thr).inj h1 ht (by show(Bm lt t').id=(Bm lt t).id;rw[g1,g3,e'];omega);subst e3;rw[Gw ht,e']at g2;omega
theorem WI(f:Qh o){d:ByteArray}(h1:o.kind=1)(hd:Bp d 40=true):Qh ⟨o.id,o.kind,o.up,o.b1,o.c1,d,o.jA,o.own,o.b2,o.c2⟩:=by
 refine⟨f.l1,f.l2,f.own,hd,f.jA,?_⟩;have:=f.kind;unfold Gk at this ⊢;simp only[h1,if_true]at this ⊢;exact this
theorem Uv(f:Qh o){d:AX}(h1:o.kind=2)(hd:De d.n d.f=true):Qh ⟨o.id,o.kind,o.up,o.b1,o.c1,o.data,d,o.own,o.b2,o.c2⟩:=by
 refine⟨f.l1,f.l2,f.own,f.data,hd,?_⟩;have:=f.kind;unfold Gk at this ⊢;simp only[h1]at this ⊢;exact this
theorem Kx{f:Nat->ByteArray}:De n f=true↔n<=8/\∀i,i<n->Bp (f i) 40=true:=by
 unfold De;simp only[Bool.and_eq_true,decide_eq_true_eq,List.all_eq_true,List.mem_range]
theorem bh(ok:KU lt lo=true)(ht:t<lt.length)(so:s.ok=true)(p:bu lt[t] s lt lo t c tx lt' lo'):KU lt' lo'=true:=by
 have X:=GD ok _ (List.getElem_mem ht);have sf:=UO so;cases p with
 |k1 h x e1 e2 p=>
  subst e1 e2;rcases p with⟨_,_,rfl,_⟩|⟨_,hn,_,a,cc,rfl⟩
  ·rw[UZ ht];exact ok
  ·have:=X.made;exact JS ok ht ⟨X.id,X.l1,X.l2,aV X (fun e=>hn (.inr e)) rfl,by dsimp only;omega⟩ rfl (by dsimp only;omega)
 |k12 h x e1 e2 e3 p=>
  subst e1 e2;rcases p with⟨_,_,rfl⟩|⟨_,_,d,sd,rfl⟩
  ·rw[UZ ht];exact ok
  ·exact JS ok ht ⟨X.id,Oa sd sf.l1,X.l2,X.own,X.made⟩ rfl (Int.le_refl _)
 |k14 h x e1 e2 e3 p=>
  subst e1 e2;rcases p with⟨_,_,rfl⟩|⟨_,_,a,cc,rfl⟩
  ·rw[UZ ht];exact ok
  ·exact JS ok ht ⟨X.id,X.l1,X.l2,ZE X.own,X.made⟩ rfl (Int.le_refl _)
 |make h p=>exact YE ok ht so h p
 |drop h e1 e3 p=>
  subst e1;rcases p with⟨_,_,rfl⟩|⟨_,_,u,hu,u0,rfl⟩
  ·exact ok
  ·exact ay ok hu u0
 |k6 h p=>
  rcases p with⟨_,_,_,rfl,rfl⟩|⟨u,hu,⟨_,_,_,rfl,rfl⟩|⟨_,_,_,rfl,rfl⟩⟩
  ·exact ok
  ·exact ok
  ·obtain⟨_,ul,i1,k1,_⟩:=Hy hu;rw[BM ul];exact Ma ok ul (WI (Fs ok _ (List.getElem_mem ul)) k1 sf.data) rfl rfl rfl
 |k7 h p=>
  rcases p with⟨_,_,_,rfl,rfl⟩|⟨u,hu,_,_,rfl,rfl⟩
  ·exact ok
  ·exact ok
 |k8 h p=>
  rcases p with⟨_,_,_,rfl,rfl⟩|⟨u,hu,⟨_,_,_,rfl,rfl⟩|⟨v,hv,⟨_,_,_,rfl,rfl⟩|⟨kv,_,_,_,rfl,rfl⟩⟩⟩
  ·exact ok
  ·exact ok
  ·exact ok
  ·obtain⟨_,ul,_⟩:=Hy hu;obtain⟨vl,_⟩:=Ht hv;rw[BM vl]at kv;rw[BM vl,BM ul];exact Ma ok vl (WI (Fs ok _ (List.getElem_mem vl)) kv (Fs ok _ (List.getElem_mem ul)).data) rfl rfl rfl
 |k9 h p=>
  rcases p with⟨_,_,_,rfl,rfl⟩|⟨u,hu,⟨_,_,_,rfl,rfl⟩|⟨_,_,_,_,rfl,rfl⟩|⟨_,n8,_,_,rfl,a,c',rfl⟩⟩
  ·exact ok
  ·exact ok
  ·exact ok
  ·obtain⟨_,ul,i1,k1,_⟩:=Hy hu;rw[BM ul]at n8 ⊢;have f:=Fs ok _ (List.getElem_mem ul);have it:=Kx.1 f.jA;refine Ma ok ul (Uv f k1 (Kx.2 ⟨by dsimp only;omega,fun i hi=>?_⟩)) rfl rfl rfl;dsimp only;unfold DF;split
   ·rename_i h1;exact it.2 i h1
   ·exact sf.data
 |k10 h p=>
  rcases p with⟨_,_,_,rfl,rfl⟩|⟨u,hu,⟨_,_,_,rfl,rfl⟩|⟨_,_,_,_,rfl,rfl⟩|⟨_,n0,_,_,rfl,a,c',rfl⟩⟩
  ·exact ok
  ·exact ok
  ·exact ok
  ·obtain⟨_,ul,i1,k1,_⟩:=Hy hu;rw[BM ul]at n0 ⊢;have f:=Fs ok _ (List.getElem_mem ul);have it:=Kx.1 f.jA;refine Ma ok ul (Uv f k1 (Kx.2 ⟨by dsimp only;omega,fun i hi=>?_⟩)) rfl rfl rfl;dsimp only at hi ⊢;exact it.2 (i+1) (by omega)
 |k13 h p=>
  rcases p with⟨_,_,_,rfl,rfl⟩|⟨u,hu,⟨_,_,_,rfl,rfl⟩|⟨_,_,_,_,rfl,rfl⟩|⟨_,nb,_,_,a,c',rfl,rfl⟩⟩
  ·exact ok
  ·exact ok
  ·exact ok
  ·obtain⟨_,ul,i1,k1,_⟩:=Hy hu;rw[BM ul]at nb ⊢;have f:=Fs ok _ (List.getElem_mem ul);obtain⟨_,x2,x3⟩:=Ic.1 X.own;obtain⟨_,_,f3⟩:=Ic.1 f.own;refine JS ok ht ⟨X.id,X.l1,X.l2,NJ (by omega) (NT x2 _) (fun x hx=>?_),X.made⟩ rfl (Int.le_refl _);rcases Tr hx with hx|⟨i,hi,rfl⟩
   ·exact x3 x hx
   ·exact f3 _ (List.mem_map.2 ⟨i,List.mem_range.2 hi,rfl⟩)
 |k15 h p=>
  rcases p with⟨_,_,_,rfl,rfl⟩|⟨u,hu,_,_,rfl,rfl⟩
  ·exact ok
  ·exact ok
theorem Zw(ok:KU lt lo=true)(p:Zr lt lo s c tx lt' lo'):KU lt' lo'=true:=by
 cases p with
 |form h hc ht e1 e2=>subst e1 e2;exact ok
 |thread h hn hc ht e1 e2=>subst e1 e2;exact ok
 |act h t ht hn p=>exact bh ok ht h p
open Go.BigFrame Go.Shelf Go.Proofs.Tryz
def Sn(i:Nat):Af:=⟨i,1,Aq,2,Aq,FP,0⟩
def F0(j:Nat):List Af:=(List.range j).map (fun i=>Sn (i+1))
def Qd:Ae:=⟨1,3,0,1,Aq,⟨#[]⟩,⟨none,0,0,fun _=>⟨#[]⟩⟩,FP,0,Aq⟩
theorem Gx(j:Nat):(F0 j).length=j:=by simp[F0]
theorem UT(j:Nat):F0 (j+1)=F0 j++[Sn (j+1)]:=by simp[F0,List.range_succ]
theorem YS(w:World)(B:Nat)(hb:B<=w.heap.size):Ba (w.alloc (.cells #[.int .i64 1,.int .i64 3,.int .i64 0,.int .i64 1,.slice none 0 0,.string (ByteArray.mk #[]),.slice none 0 0,.slice none 0 0,.int .i64 0,.slice none 0 0] 51)) B (.slice (w) 1 1) [Qd]:=by
 refine⟨rfl,.inr ⟨w,1,#[.int .i64 1,.int .i64 3,.int .i64 0,.int .i64 1,.slice none 0 0,.string (ByteArray.mk #[]),.slice none 0 0,.slice none 0 0,.int .i64 0,.slice none 0 0],rfl,hb,heap_alloc_new w _,Nat.le_refl _,by unfold maxLen;omega,rfl,?_⟩⟩;rfl
theorem P9{m i:Nat}(hi:i<m):Bm (F0 m) i=Sn (i+1):=by
 rw[Gw (by rw[Gx];exact hi)];simp[F0]
theorem aE:Qh Qd:=⟨rfl,rfl,rfl,MO,rfl,by simp[Gk,Qd,Fh,Aq,FP]⟩
theorem aY{m:Nat}(h1:1<=m)(h9:m<=9):KU (F0 m) [Qd]=true:=by
 refine Cl.2 ⟨?_,Nat.le_refl _,rfl,fun i hi=>?_,fun i j hij hj=>?_,fun i i0 hi=>?_,fun i i0 hi=>?_,fun i hi=>?_⟩
 ·show Br (F0 m).length (Bm (F0 m))=true;rw[Gx];refine Rk h1 h9 (fun i hi=>?_) (fun i j hij hj=>?_)
  ·rw[P9 hi];exact JL.2 ⟨by simp[Sn];omega,rfl,rfl,rfl,by simp[Sn]⟩
  ·show(Bm (F0 m) i).id<(Bm (F0 m) j).id;rw[P9 (by omega),P9 hj];simp[Sn];omega
 ·have hi':i<1:=hi;obtain rfl:i=0:=by omega
  exact J5.2 aE
 ·have hj':j<1:=hj;omega
 ·have hi':i<1:=hi;omega
 ·have hi':i<1:=hi;omega
 ·have hi':i<1:=hi;obtain rfl:i=0:=by omega
  exact Wq.root
theorem Tn(tmps:Array Value)(W:World)(P:Nat)(x y:Value)(h:Ai W P (.cells #[x,y] 27))(h2:tmps[2]? =some (.pointer P))(h3:tmps[3]? =some (.bool true)):
 (results Tryz.f32 tmps).run prog W= .ok (.tuple #[.agg #[x,y],.bool true]) W:=by
 obtain⟨z0,z1⟩:=h.two;simp[results,Tryz.results32,go_sem,h2,h3,z0,z1]
theorem Qq(m:Nat)(w:World)(h1:1<=m)(h9:m<=9):
 Calls prog 32 #[.int .i64 m] w fun e w'=>∃(ta oa:Option Addr) (ca co:Nat),e= .returned (.tuple #[.agg #[.slice ta (F0 m).length ca,.slice oa 1 co],.bool true])/\Cf w' w (.slice ta (F0 m).length ca) (.slice oa [Qd].length co) (F0 m) [Qd]/\Below w w w':=by
 have I1:Ed (m:Int) 1 9=true:=by simp[Ed];omega
 have n3:No (.cells #[.slice none 0 0,.slice none 0 0] 27):=⟨⟩;have C1:=hid (BN (m:Int) 1 9 (w.alloc n3));rw[I1]at C1;have n4:Nw ((w.alloc n3).alloc (.cells #[.int .i64 1,.int .i64 3,.int .i64 0,.int .i64 1,.slice none 0 0,.string (ByteArray.mk #[]),.slice none 0 0,.slice none 0 0,.int .i64 0,.slice none 0 0] 51)):=⟨⟩;have n5:No (.cells #[.slice none 0 0,.slice (some ⟨w.heap.size+1,0,none⟩) 1 1] 27):=⟨⟩;have n1:Nw ((n4:World).alloc n5):=⟨⟩;have R0:Hid (Ai n1 w n3):=hid (((Ai.new w _).alloc _).alloc _);have K0:Hid (Ai n1 (w.heap.size+1+1) n5):=hid (by have:=Ai.new n4 n5;simpa using this);have n6:Nv (.slice (some ⟨w.heap.size+1,0,none⟩) 1 1):=⟨⟩;have O0:Hid (Ba n1 w n6 [Qd]):=hid (by
  have h:=YS (w.alloc n3) w (by simp);have e:(w.alloc n3).heap.size=w.heap.size+1:=by simp
  rw[e]at h;exact World.ownsRow.alloc h _)
 have B0:Hid (Below w w n1):=hid (((CY w _).alloc (by simp) _).alloc (by simp;omega) _);have z0:w.heap.size+3<=(n1:World).heap.size:=by simp
 go_enter func32,ntmps32
 go_wp2_with fail
 refine C1.out.mono ?_;rintro e w1 ⟨rfl,rfl⟩;go_wp2;generalize (n1:World)=V at *;go_loopw [5] (fun i wr=>∃(j:Nat) (ta:Option Addr) (ca:Nat),j<=m/\i= .int .i64 ((j:Int)+1)/\Ai wr w n3/\Ai wr (w.heap.size+1+1) (.cells #[.slice ta j ca,.slice (some ⟨w.heap.size+1,0,none⟩) 1 1] 27)/\Ba wr w n6 [Qd]/\CV wr (w.heap.size+3) (.slice ta j ca) (F0 j)/\Below w w wr/\w.heap.size+3<=wr.heap.size) (fun i _=>m+1-(intOf i).toNat)
 case atStart=>exact⟨0,none,0,Nat.zero_le _,rfl,R0,K0,O0,CV.nil _ _,B0,z0⟩
 case round=>
  obtain⟨j,ta,ca,hj,rfl,r,k,o,ot,be,zz⟩:=hrel;clear R0 K0 O0 B0 z0 C1;have RR:=hid r;have KK:=hid k;have OO:=hid o;have TT:=hid ot;have BB:=hid be;clear r k o ot be;obtain⟨k0,k1⟩:=KK.out.two;have kf:=KK.out.jC;have wj:IntKind.i64.wrap ((j:Int)+1+1)=(j:Int)+1+1:=by rw[IntKind.wrap_i64];omega
  by_cases hlt:j<m
  ·have i1:(j:Int)+1<=(m:Int):=(by omega);have HLT:=hid hlt;have n2:No (.cells #[.int .i64 ((j:Int)+1),.int .i64 1,.slice none 0 0,.int .i64 2,.slice none 0 0,.slice none 0 0,.int .i64 0] 47):=⟨⟩;have QL:Hid (Bh (wr.alloc n2) (some ⟨wr,0,none⟩) 1 (Ci [Sn (j+1)])):=hid (CV.one wr (Sn (j+1)));have QO:=hid (World.ownsRow.alloc TT n2);have lj:=Gx j;have KA:=hid (KK.out.alloc n2);have RA:=hid (RR.out.alloc n2);have OA:=hid (World.ownsRow.alloc OO n2);have BA:=hid (BB.out.alloc BB.out.size n2);have za:w.heap.size+3<=(wr.alloc n2).heap.size:=(by simp;omega);clear lj;go_wp2_with(at_builtin;refine Iu _ rfl _ _ rfl (w.heap.size+3) (.slice ta j ca) (F0 j) rfl QO _ _ (Sn (j+1)) rfl QL (by rw[Gx];omega) za ?_;intro a7 c7 w7 o7 g7;rw[Gx]at o7 ⊢;rw[<-UT]at o7;have O7:=hid o7;have G7:=hid g7;clear o7 g7;have nb:∀p,p<w.heap.size+3->some p≠Value.ownBlock (.slice ta j ca):=(fun p hp e=>by have:=(World.ownsRow.lt QO p e.symm).1;omega);have K7:=hid (KA.out.grown G7 (nb _ (by omega)));have R7:=hid (RA.out.grown G7 (nb _ (by omega)));have OW7:=hid (World.ownsRow.kept OA G7 (Or.inr (nb (w.heap.size+1) (by omega))));have B7:=hid (BA.out.trans (below_grown G7 (by have:=BB.out.size;omega) (fun p e=>by have:=(World.ownsRow.lt QO p e).1;omega)));have z7:w.heap.size+3<=w7.heap.size:=Nat.le_trans za G7.out.size;have k7f:=K7.out.jC;obtain⟨k70,k71⟩:=K7.out.two;clear nb)
   go_roundw;case rel=>
    refine⟨j+1,a7,c7,by have:=HLT.out;omega,by go_num,R7.out.other (by omega) _,K7.out.jB (i:=0) _,Ba.set OW7 K7 (by decide) _,CV.set O7 K7 (by decide) _,B7.out.setCell (by dsimp only;omega) _,by rw[nblk_setCell];exact z7⟩
   case measure=>have:=HLT.out;simp[intOf];omega
  ·obtain rfl:j=m:=by omega
   have i1:¬(j:Int)+1<=(j:Int):=(by omega);obtain⟨r0,r1⟩:=RR.out.two;have rf:=RR.out.jC;have lj:=Gx j;have n7:Nv (.slice (some ⟨w.heap.size+1,0,none⟩) 1 1):=⟨⟩;have RZ:=hid ((RR.out.jB (i:=0) (.slice ta j ca)).jB (i:=1) n7);go_wp2;refine bodyPost_ret (Tn _ _ w _ _ RZ rfl rfl) rfl ⟨ta,some ⟨w.heap.size+1,0,none⟩,ca,1,rfl,?_,?_⟩
   ·have k1:Cf wr w (.slice ta j ca) n7 (F0 j) [Qd]:=⟨CV.base TT (by omega),OO,fun x hx=>by
     obtain⟨i,_,rfl⟩:=List.mem_map.1 hx;exact⟨Ah,Ah,Hi⟩,fun x hx=>by
     obtain rfl:=List.mem_singleton.1 hx;exact⟨Ah,Hk,Hi,Ah⟩,fun x hx=>by
     obtain⟨i,_,rfl⟩:=List.mem_map.1 hx;exact⟨Nat.le_refl _,Nat.zero_le _⟩,fun x hx=>by
     obtain rfl:=List.mem_singleton.1 hx;exact⟨Nat.le_refl _,Nat.zero_le _⟩⟩
    exact(k1.set RR (.inl rfl) _).set (RR.out.jB (i:=0) _) (.inl rfl) _
   ·exact(BB.out.setCell nr _).setCell nr _
def Te(x:Int):Prop:= -9223372036854775808<=x/\x<9223372036854775808
theorem Te.w64(x:Int):Te (wrap64 x):=by unfold wrap64 Te;omega
theorem Te.of{x:Int}(h1: -9223372036854775808<=x)(h2:x<9223372036854775808):Te x:=⟨h1,h2⟩
theorem YM(w0:World)(rb:Nat)(a:Option Addr)(n cap:Nat)(lo hi:Nat)(w:World)(hl:lo<=hi)(hh:hi<=1099511627776)(h:Rd w0 w rb a n cap):
 Calls prog 66 #[.pointer rb,.int .i64 lo,.int .i64 hi] w fun e w'=>∃x:Int,e= .returned (.int .i64 x)/\Te x/\Rd w0 w' rb a n cap/\w.grownBy w' (some rb):=by
 have HR:Hid (Rd w0 w rb a n cap):=h;clear h;have w1:IntKind.i64.wrap ((hi:Int)-lo)=(hi:Int)-lo:=by rw[IntKind.wrap_i64];omega
 have w2:IntKind.i64.wrap ((hi:Int)-lo+1)=(hi:Int)-lo+1:=by rw[IntKind.wrap_i64];omega
 have nl:¬(hi:Int)<(lo:Int):=by omega
 go_enter func66,ntmps66
 go_wp2_with fail
 refine(Ax w0 rb a n cap 8 _ (by omega) HR).mono ?_;rintro e u1 ⟨x,rfl,_,x8,R1,g1⟩;have HR1:Hid (Rd w0 u1 rb a n cap):=R1;clear R1;by_cases t0:x=0
 ·subst t0;go_wp2;go_ret;exact⟨_,rfl,.of (by omega) (by omega),HR1,g1⟩
 ·by_cases t1:x=1
  ·subst t1;go_wp2;go_ret;exact⟨_,rfl,.of (by omega) (by omega),HR1,g1⟩
  ·have t0':((x:Int)==0)=false:=(by simpa using t0);have t1':((x:Int)==1)=false:=(by simp;omega);go_wp2_with fail
   refine(TJ w0 rb a n cap _ HR1).mono ?_;rintro e u2 ⟨y,rfl,R2,g2⟩;have HR2:Hid (Rd w0 u2 rb a n cap):=R2;clear R2;have m1:IntKind.u64.wrap ((hi:Int)-lo+1)=(hi:Int)-lo+1:=(by rw[IntKind.wrap_u64];omega);have m0:¬((hi:Int)-lo+1)=0:=(by omega);go_wp2;go_ret;exact⟨_,rfl,.w64 _,HR2,BH g1 g2⟩
theorem Tb(w0:World)(rb:Nat)(a:Option Addr)(n cap:Nat)(lo hi:Nat)(w:World)(hl:lo<=hi)(hh:hi<=1099511627776)(h:Rd w0 w rb a n cap):
 Calls prog 36 #[.pointer rb,.int .i64 lo,.int .i64 hi] w fun e w'=>∃x:Int,e= .returned (.int .i64 x)/\Te x/\Rd w0 w' rb a n cap/\w.grownBy w' (some rb):=by
 have HR:Hid (Rd w0 w rb a n cap):=h;clear h;have w1:IntKind.i64.wrap ((lo:Int)-1)=(lo:Int)-1:=by rw[IntKind.wrap_i64];omega
 have w2:IntKind.i64.wrap ((hi:Int)+1)=(hi:Int)+1:=by rw[IntKind.wrap_i64];omega
 go_enter func36,ntmps36
 go_wp2_with fail
 refine(D4 w0 rb a n cap 24 _ (by omega) HR).mono ?_;rintro e u1 ⟨t,rfl,R1,g1⟩;have HR1:Hid (Rd w0 u1 rb a n cap):=R1;clear R1;cases t with
 |true=>
  go_wp2_with fail
  have lr:=HR1.out.lt;refine(Ax w0 rb a n cap 4 _ (by omega) (HR1.out.below (CY _ _))).mono ?_;rintro e u2 ⟨x,rfl,_,x4,R2,g2⟩;have x4':=x4 (by omega);have HR2:Hid (Rd w0 u2 rb a n cap):=R2;have gN:w.grownBy u2 (some rb):=BH (Da g1 (World.grownBy_alloc u1 _ none) (fun j e=>by cases e)) g2;have Bk:Ai u2 u1 (.cells #[.int .i64 ((lo:Int)-1),.int .i64 ((hi:Int)+1),.int .i64 (-9223372036854775808),.int .i64 9223372036854775807] 2):=(Ai.new u1 _).grown g2 (by simp;omega);unfold Ai at Bk;have c0:u2.cell? ⟨u1,0,none⟩=some (.int .i64 ((lo:Int)-1)):=by simp[World.cell?,Bk]
  have c1:u2.cell? ⟨u1,1,none⟩=some (.int .i64 ((hi:Int)+1)):=by simp[World.cell?,Bk]
  have c2:u2.cell? ⟨u1,2,none⟩=some (.int .i64 (-9223372036854775808)):=by simp[World.cell?,Bk]
  have c3:u2.cell? ⟨u1,3,none⟩=some (.int .i64 9223372036854775807):=by simp[World.cell?,Bk]
  clear R2 x4 Bk g2;have hx:x=0∨x=1∨x=2∨x=3:=by omega
  rcases hx with rfl|rfl|rfl|rfl;all_goals
   clear x4';go_wp2;go_ret;exact⟨_,rfl,.of (by omega) (by omega),HR2,gN⟩
 |false=>
  go_wp2_with fail
  refine(YM w0 rb a n cap lo hi _ hl hh HR1).mono ?_;rintro e u2 ⟨x,rfl,ix,R2,g2⟩;have HR2:Hid (Rd w0 u2 rb a n cap):=R2;clear R2;go_wp2;go_ret;exact⟨_,rfl,ix,HR2,BH g1 g2⟩
end Go.Proofs.YtblapfnglojgjaaGreatDoor
