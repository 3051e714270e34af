import Derived.Test.YtefoofaocbjdoaaGreatDoorZ18s
set_option maxRecDepth 100000
set_option maxHeartbeats 8000000
namespace Go.Proofs.YtefoofaocbjdoaaGreatDoor
open Go Go.RowKit Go.Deep Go.Maps
theorem Ab.same.refl(t:Ab):t.same t:=⟨rfl,rfl,rfl,rfl,⟨rfl,rfl,rfl⟩,rfl,⟨rfl,rfl⟩,⟨rfl,rfl⟩,rfl,⟨rfl,rfl,rfl⟩⟩
theorem Ab.new.below{B:Nat}{w w':World}{t:Ab}(h:t.new B w)(hb:Below w w w'):t.new B w':=⟨h.1.below hb,h.2.1.below hb,h.2.2.1.below hb,h.2.2.2.below hb⟩
theorem Tj{n:Nat}{h:Nat->Int}:((List.range n).map h).Pairwise (· <·)↔∀i j,i<j->j<n->h i<h j:=by
 rw[List.pairwise_iff_getElem];constructor
 ·intro H i j hij hj;have:=H i j (by simp;omega) (by simp;omega) hij;simpa using this
 ·intro H i j hi hj hij;simp at hi hj;simpa using H i j hij hj
theorem Hb{n:Nat}{h:Nat->Int}:BJ n h=true↔n<=10/\((List.range n).map h).Pairwise (· <·)/\∀x∈(List.range n).map h,1<=x/\x<=9999:=by
 unfold BJ;simp only[Bool.and_eq_true,decide_eq_true_eq,List.all_eq_true,List.mem_range];constructor
 ·rintro⟨h1,h2⟩;refine⟨h1,?_,?_⟩
  ·rw[Tj];refine Kj (fun i i0 hi=>?_);have:=h2 i hi;unfold Dz at this;simp only[Bool.and_eq_true,Bool.or_eq_true,decide_eq_true_eq,beq_iff_eq]at this;rcases this.2 with e|e
   ·omega
   ·exact e
  ·intro x hx;obtain⟨i,hi,rfl⟩:=List.mem_map.1 hx;have:=h2 i (List.mem_range.1 hi);unfold Dz at this;simp only[Bool.and_eq_true,CF]at this;exact this.1
 ·rintro⟨h1,h2,h3⟩;refine⟨h1,fun i hi=>?_⟩;rw[Tj]at h2;unfold Dz;simp only[Bool.and_eq_true,Bool.or_eq_true,decide_eq_true_eq,beq_iff_eq,CF];refine⟨h3 _ (List.mem_map.2 ⟨i,List.mem_range.2 hi,rfl⟩),?_⟩;by_cases e:i=0
  ·exact .inl e
  ·exact .inr (h2 (i-1) i (by omega) hi)
theorem N6{L:List Int}(h1:L.length<=10)(h2:L.Pairwise (· <·))(h3:∀x∈L,1<=x/\x<=9999):BJ L.length (AX L)=true:=by
 rw[Hb,Qh];exact⟨h1,h2,h3⟩
theorem Gx(t:Ae):t.same t:=⟨rfl,rfl,⟨rfl,rfl,rfl⟩,rfl,⟨rfl,rfl,rfl⟩,⟨rfl,rfl⟩,rfl⟩
theorem UT{α:Type}{l:List α}{t j:Nat}{x z:α}(hj:j<l.length):(l.set t x).getD j z=if j=t then x else l.getD j z:=by
 rw[List.getD_eq_getElem?_getD,List.getD_eq_getElem?_getD,List.getElem?_set];by_cases e:t=j
 ·subst e;simp[hj]
 ·have e':¬j=t:=fun h=>e h.symm;simp[e,e']
section
variable {lt:List Ae}{lo:List Ab} (ok:okL lt lo=true)
include ok
theorem IR{t:Nat}(ht:t<lt.length){x:Ae}(hx:Nl x)(hi:x.id=lt[t].id)(hm:lt[t].made<=x.made):okL (lt.set t x) lo=true:=by
 have e:(Cp none 0 none 0 lt lo).T t=lt[t]:=Eh ht;have k:=(Bv.1 ok).setT (t:=t) (Io.2 hx) (by rw[e];exact hi) (by rw[e];exact hm);have h:=Bv.2 k;refine(Cs ?_).trans h;refine⟨by simp[Cp,Ax.setT],fun j hj=>?_,rfl,fun j hj=>Ab.same.refl _⟩;have hj':j<lt.length:=hj;have e2:(Cp none 0 none 0 (lt.set t x) lo).T j=((Cp none 0 none 0 lt lo).setT t x).T j:=UT hj';rw[e2];exact Gx _
theorem KY{u:Nat}(hu:u<lo.length){x:Ab}(hx:MN x)(h1:x.id=lo[u].id)(h2:x.kind=lo[u].kind)(h3:x.up=lo[u].up):okL lt (lo.set u x)=true:=by
 have e:(Cp none 0 none 0 lt lo).O u=lo[u]:=AM hu;have k:=(Bv.1 ok).setO (i:=u) (IY.2 hx) (by rw[e];exact h1) (by rw[e];exact h2) (by rw[e];exact h3);have h:=Bv.2 k;refine(Cs ?_).trans h;refine⟨rfl,fun j hj=>Gx _,by simp[Cp,Ax.setO],fun j hj=>?_⟩;have hj':j<lo.length:=hj;have e2:(Cp none 0 none 0 lt (lo.set u x)).O j=((Cp none 0 none 0 lt lo).setO u x).O j:=UT hj';rw[e2];exact Ab.same.refl _
theorem Gv:Aa lo 0=Aa lo 0/\(Aa lo 0).id=1/\(Aa lo 0).up=0:=by
 have r:=(Bv.1 ok).root;unfold FP at r;simp only[Bool.and_eq_true,beq_iff_eq]at r;exact⟨rfl,r.1.1,r.2⟩
theorem ZE{j:Nat}(hj:j<lo.length):1<=(Aa lo j).id:=by
 have r:=(Gv ok).2.1;by_cases e:j=0
 ·subst e;omega
 ·have h:=(Bv.1 ok).rise 0 j (by omega) hj;have h':(Aa lo 0).id<(Aa lo j).id:=h;omega
end
theorem Ka(x:Ab):∀lo:List Ab,∃p,p<=lo.length/\Bm x lo=lo.take p++x::lo.drop p/\(∀j,j<p->¬x.id<(Aa lo j).id)/\(p<lo.length->x.id<(Aa lo p).id)
 |[]=>⟨0,Nat.le_refl _,rfl,fun j hj=>absurd hj (Nat.not_lt_zero j),fun h=>absurd h (Nat.not_lt_zero 0)⟩
 |y::r=>by
  by_cases h:x.id<y.id
  ·refine⟨0,Nat.zero_le _,by simp[Bm,h],fun j hj=>absurd hj (Nat.not_lt_zero j),fun _=>?_⟩;simpa[Aa]using h
  ·obtain⟨p,h1,h2,h3,h4⟩:=Ka x r;refine⟨p+1,by simpa using h1,by simp[Bm,h,h2],fun j hj=>?_,fun hp=>?_⟩
   ·cases j with
    |zero=>simpa[Aa]using h
    |succ j=>have:=h3 j (by omega);simpa[Aa]using this
   ·have:=h4 (by simpa using hp);simpa[Aa]using this
theorem bz{lo:List Ab}{p j:Nat}{x:Ab}(hp:p<=lo.length):Aa (lo.take p++x::lo.drop p) j=Ga (Aa lo) p x j:=by
 unfold Aa Ga;simp only[List.getD_eq_getElem?_getD];have lp:(lo.take p).length=p:=by simp[hp]
 by_cases h1:j<p
 ·rw[if_pos h1,List.getElem?_append_left (by omega),List.getElem?_take_of_lt h1]
 ·rw[if_neg h1,List.getElem?_append_right (by omega),lp];by_cases h2:j=p
  ·subst h2;simp
  ·rw[if_neg h2];obtain⟨m,rfl⟩:∃m,j=p+m+1:=⟨j-p-1,by omega⟩;have e:p+m+1-p=m+1:=(by omega);rw[e,List.getElem?_cons_succ,List.getElem?_drop];congr 2
theorem ZQ{lt:List Ae}{lo:List Ab}(ok:okL lt lo=true){x:Ab}(hx:MN x)(hn:FE lt.length (AY lt) x.id=true){u:Nat}(hu:Hf lo x.up=some u)(hk:(Aa lo u).kind=3)(hne:∀j,j<lo.length->(Aa lo j).id≠x.id)(h1:1<x.id):okL lt (Bm x lo)=true:=by
 obtain⟨p,hp,e,lo',hi'⟩:=Ka x lo;have kk:=Bv.1 ok;have u1:=AE hu;have p0:0<p:=by
  by_cases h:p=0
  ·subst h;have:=hi' (by have:=Ec ok;omega);have:=(Gv ok).2.1;omega
  ·omega
 have k:=kk.ins (p:=p) (x:=x) p0 hp (fun j hj=>by
  have h1:=lo' j hj;have h2:=hne j (by omega);show(Aa lo j).id<x.id;omega) (fun j hj hjn=>by
  have h0:=hi' (by have:j<lo.length:=hjn;omega);show x.id<(Aa lo j).id;by_cases ej:j=p
  ·subst ej;exact h0
  ·have h2:(Aa lo p).id<(Aa lo j).id:=kk.rise p j (by omega) hjn;omega) (IY.2 hx) hn ⟨u,u1.1,u1.2,hk⟩
 have h:=Bv.2 k;refine(Cs ?_).trans h;have el:(Bm x lo).length=lo.length+1:=Kx;refine⟨rfl,fun j hj=>Gx _,el,fun j hj=>?_⟩;have e2:(Cp none 0 none 0 lt (Bm x lo)).O j=((Cp none 0 none 0 lt lo).ins p x).O j:=by
  show Aa (Bm x lo) j=Ga (Aa lo) p x j;rw[e];exact bz hp
 rw[e2];exact Ab.same.refl _
theorem XX{G:List Int}{x:Int}:hasB G.length (AX G) x=true↔x∈G:=by
 unfold hasB;rw[List.any_eq_true];constructor
 ·rintro⟨i,hi,e⟩;have hi':=List.mem_range.1 hi;have:AX G i=x:=by simpa using e
  rw[<-this];unfold AX;rw[List.getD_eq_getElem?_getD,List.getElem?_eq_getElem hi'];exact List.getElem_mem hi'
 ·intro h;obtain⟨i,hi,e⟩:=List.mem_iff_getElem.1 h;exact⟨i,List.mem_range.2 hi,by simp[AX,hi,e]⟩
theorem bE(lo:List Ab):(List.range lo.length).map (Aa lo)=lo:=by
 refine List.ext_getElem (by simp) (fun i h1 h2=>?_);simp[Aa,h2]
theorem Zt{lt:List Ae}{lo:List Ab}(ok:okL lt lo=true){x:Int}{u:Nat}(hu:Hf lo x=some u)(u0:0<u):okL lt (Eo (BZ lo u) lo lo.length)=true:=by
 have kk:=Bv.1 ok;obtain⟨ul,_⟩:=AE hu;have h0:∀j,j<lo.length->(fun i=>(Aa lo i).id) j≠(fun i=>(Aa lo i).up) 0:=fun j hj=>by
  have:=ZE ok hj;have:=(Gv ok).2.2;show(Aa lo j).id≠(Aa lo 0).up;omega
 have rise:Dp (fun i=>(Aa lo i).id) lo.length:=kk.rise;have hc:Hn (fun i=>(Aa lo i).id) (fun i=>(Aa lo i).up) lo.length u:=Jq ok ul;have gone:∀y,hasB (BZ lo u).length (AX (BZ lo u)) y=true↔∃i,i<lo.length/\(∃m,m<lo.length/\Bn (fun i=>(Aa lo i).id) (fun i=>(Aa lo i).up) lo.length m i=some u)/\(Aa lo i).id=y:=by
  intro y;rw[XX];unfold BZ;rw[LX,List.mem_map];constructor
  ·rintro⟨i,hi,e⟩;have:=(Ev rise h0 ul).1 hi;exact⟨i,this.1,this.2,e⟩
  ·rintro⟨i,h1,h2,e⟩;exact⟨i,(Ev rise h0 ul).2 ⟨h1,h2⟩,e⟩
 have k:=kk.cut (keep:=fun i=> !hasB (BZ lo u).length (AX (BZ lo u)) (Aa lo i).id) (by
  simp only[Bool.not_eq_true'];rw[<-Bool.not_eq_true,gone];rintro⟨i,hi,⟨m,_,hm⟩,e⟩;have e0:i=0:=rise.inj hi (by omega) e;subst e0;cases m with
  |zero=>simp[Bn]at hm;omega
  |succ m=>simp[Bn,Jo]at hm) (fun i p i0 hi hp e hk=>by
  simp only[Bool.not_eq_true']at hk ⊢;rw[<-Bool.not_eq_true,gone]at hk ⊢;rintro⟨j,hj,⟨m,_,hm⟩,ej⟩;have e1:j=p:=rise.inj hj hp ej;subst e1;refine hk ⟨i,hi,?_,rfl⟩;have pi:Jo (fun i=>(Aa lo i).id) (fun i=>(Aa lo i).up) lo.length i=some j:=by
   unfold Jo;rw[if_neg (by omega)];have e':(Aa lo i).up=(Aa lo j).id:=e.symm;show Bl (fun i=>(Aa lo i).id) lo.length (Aa lo i).up=some j;rw[e'];exact Dy rise hp
  have pm:Bn (fun i=>(Aa lo i).id) (fun i=>(Aa lo i).up) lo.length (1+m) i=some u:=by
   rw[E7,Qi,pi];exact hm
  exact⟨1+m,Nx hc hi pm,pm⟩)
 have h:=Bv.2 k;refine(Cs ?_).trans h;have es:Eo (BZ lo u) lo lo.length=(Ex lo.length (fun i=> !hasB (BZ lo u).length (AX (BZ lo u)) (Aa lo i).id)).map (Aa lo):=by
  unfold Eo Ex;rw[List.take_length];generalize BZ lo u=G;have e1:lo.filter (fun o=> !hasB G.length (AX G) o.id)=((List.range lo.length).map (Aa lo)).filter (fun o=> !hasB G.length (AX G) o.id):=by rw[bE]
  rw[e1,List.filter_map];rfl
 refine⟨rfl,fun j hj=>Gx _,by show(Eo _ lo lo.length).length=_;rw[es];simp[Ax.cut,Cp],fun j hj=>?_⟩;have e2:(Cp none 0 none 0 lt (Eo (BZ lo u) lo lo.length)).O j=((Cp none 0 none 0 lt lo).cut (fun i=> !hasB (BZ lo u).length (AX (BZ lo u)) (Aa lo i).id)).O j:=by
  have hj':j<(Ex lo.length (fun i=> !hasB (BZ lo u).length (AX (BZ lo u)) (Aa lo i).id)).length:=hj;show Aa (Eo (BZ lo u) lo lo.length) j=Aa lo ((Ex lo.length (fun i=> !hasB (BZ lo u).length (AX (BZ lo u)) (Aa lo i).id)).getD j 0);rw[es];rw[AM (by simpa using hj')];simp[hj']
 rw[e2];exact Ab.same.refl _
variable {n t:Nat}{X:Ae}{lt lt':List Ae}{L:List Int}{h:Nat->Int}{c:Int}{s:Al}{lo lo':List Ab}{tx:ByteArray}{o:Ab}
theorem Ov{b:Int}{c d:Au}(h:c.same d)(hl:AZ b c.n c.f c.g=true):AZ b d.n d.f d.g=true:=by
 obtain⟨h1,h2,h3⟩:=h;rw[h1,h2,h3];exact hl
theorem RJ{T:Nat->Ae}(h:Bs n T=true):Dp (fun i=>(T i).id) n:=Kj fun i i0 hi=>by
 have:=(CL h).2.2 i hi;unfold DT at this;simp only[Bool.and_eq_true,Bool.or_eq_true,decide_eq_true_eq,beq_iff_eq]at this;rcases this.2 with e|e
 ·omega
 ·exact e
theorem WK(h:Nl X):1001<=Av X/\Av X<=9999:=by
 have:=h.id;have:=h.made;unfold Av;omega
theorem UC(ht:t<lt.length):lt.set t lt[t]=lt:=Fi ht
theorem Zm(h:Nl X)(hn:¬X.own.n=10)(e:L=DK ((List.range X.own.n).map X.own.h) (Av X)):BJ L.length (AX L)=true:=by
 obtain⟨h1,h2,h3⟩:=Hb.1 h.own;subst e;refine N6 ?_ (JB h2) (fun x hx=>?_)
 ·have:=Lc ((List.range X.own.n).map X.own.h) (Av X);simp at this;omega
 ·rcases M8 hx with hx|hx
  ·exact h3 x hx
  ·have:=WK h;omega
theorem Yh{x:Int}(hx:x∈Da h c n):x∈(List.range n).map h:=(List.mem_filter.1 hx).1
theorem Yw(ho:BJ n h=true):BJ (Da h c n).length (AX (Da h c n))=true:=by
 obtain⟨h1,h2,h3⟩:=Hb.1 ho;refine N6 ?_ (h2.filter _) (fun x hx=>h3 x (Yh hx));have:=Lv h c n;omega
theorem RO:∀{q:Nat}{x:Int},x∈DO L h q->x∈L∨∃i,i<q/\x=h i
 |0,x,hx=> .inl hx
 |q+1,x,hx=>by
  rcases M8 hx with hx|hx
  ·rcases RO hx with hx|⟨i,hi,e⟩
   ·exact .inl hx
   ·exact .inr ⟨i,by omega,e⟩
  ·exact .inr ⟨q,by omega,hx⟩
theorem Oh(hL:L.Pairwise (· <·)):∀q,(DO L h q).Pairwise (· <·)
 |0=>hL
 |q+1=>JB (Oh hL q)
theorem LZ:Br ⟨#[]⟩ 40=true:=by decide
theorem Vy(sf:Vt s){d1 d2:Au}{ow:AI}(hk:s.kind=2∨s.kind=3∨s.kind=4∨s.kind=5)(e1:s.c1.same d1)(e2:if s.kind=5 then s.c2.same d2 else d2=An)(e3:if 0<s.cat then ow.n=1/\ow.h 0=s.cat else ow=Fo):MN (newObj X s d1 d2 ow):=by
 have hw:BJ ow.n ow.h=true:=by
  by_cases h:0<s.cat
  ·rw[if_pos h]at e3;have hc:=sf.cat;have e:(s.cat==0)=false:=(by simp only[beq_eq_false_iff_ne,ne_eq];omega);unfold OF at hc;rw[e]at hc;simp only[Bool.false_eq_true,if_false,Bool.and_eq_true,CF]at hc;rw[e3.1];simp[BJ,Dz,e3.2,D9];omega
  ·rw[if_neg h]at e3;rw[e3];rfl
 have h2:AZ (newObj X s d1 d2 ow).b2 d2.n d2.f d2.g=true:=by
  unfold newObj;by_cases h:s.kind=5
  ·rw[if_pos h]at e2;simp only[if_pos h];exact Ov e2 sf.l2
  ·rw[if_neg h]at e2;simp only[if_neg h];rw[e2];rfl
 refine⟨Ov e1 sf.l1,h2,hw,LZ,rfl,?_⟩;have ce:=IB sf;have noCat:s.kind≠5->ow=Fo:=fun h=>by
  have:=ce.1 (by omega);rw[if_neg (by omega)]at e3;exact e3
 unfold newObj GU;rcases hk with h|h|h|h
 ·have e4:=noCat (by omega);rw[if_neg (by omega)]at e2;subst e2;subst e4;simp[h,Dv,An,Fo]
 ·have e4:=noCat (by omega);rw[if_neg (by omega)]at e2;subst e2;subst e4;simp[h,Dv,An,Fo]
 ·have e4:=noCat (by omega);rw[if_neg (by omega)]at e2;subst e2;subst e4;simp[h,Dv,An,Fo]
 ·simp[h]
theorem YA(ok:okL lt lo=true)(ht:t<lt.length)(so:s.ok=true)(hk:s.kind=2∨s.kind=3∨s.kind=4∨s.kind=5)(p:Yz lt[t] s lt lo t c tx lt' lo'):okL lt' lo'=true:=by
 rcases p with⟨_,_,_,rfl,rfl⟩|⟨_,_,_,_,rfl,rfl⟩|⟨_,mb,m30,_,rfl,d1,d2,ow,e1,e2,e3,rfl⟩
 ·exact ok
 ·exact ok
 ·have X:=Fq ok _ (List.getElem_mem ht);have m1:=X.made;have i1:=X.id;have ok1:=IR ok ht (x:=⟨lt[t].id,lt[t].b1,lt[t].c1,lt[t].b2,lt[t].c2,lt[t].own,lt[t].made+1⟩) ⟨X.id,X.l1,X.l2,X.own,by dsimp only;omega⟩ rfl (by dsimp only;omega);unfold Gc at mb;cases hu:Hf lo s.id with
  |none=>rw[hu]at mb;cases mb
  |some u=>
   rw[hu]at mb;simp only[Bool.and_eq_true,decide_eq_true_eq]at mb;have kk:=Bv.1 ok;have k1:=Bv.1 ok1;have nc:Av lt[t]=1000*lt[t].id+lt[t].made+1:=rfl;refine ZQ ok1 (Vy (GP so) hk e1 e2 e3) ?_ hu mb.1.1.1.1 (fun j hj=>?_) (by show 1<Av lt[t];omega)
   ·have et:AY (lt.set t (⟨lt[t].id,lt[t].b1,lt[t].c1,lt[t].b2,lt[t].c2,lt[t].own,lt[t].made+1⟩:Ae)) t=⟨lt[t].id,lt[t].b1,lt[t].c1,lt[t].b2,lt[t].c2,lt[t].own,lt[t].made+1⟩:=by
     have:=UT (l:=lt) (t:=t) (j:=t) (x:=(⟨lt[t].id,lt[t].b1,lt[t].c1,lt[t].b2,lt[t].c2,lt[t].own,lt[t].made+1⟩:Ae)) (z:=Ae.z) ht;rw[if_pos rfl]at this;exact this
    refine Si k1.thr (t:=t) (by simpa[Cp]using ht) ?_ ?_ ?_
    ·show(AY _ t).id=Av lt[t]/1000;rw[et];show lt[t].id=Av lt[t]/1000;omega
    ·show 1<=Av lt[t]%1000;omega
    ·show Av lt[t]%1000<=(AY _ t).made;rw[et];show Av lt[t]%1000<=lt[t].made+1;omega
   ·intro e;have e':(Aa lo j).id=Av lt[t]:=e;by_cases h0:j=0
    ·subst h0;have:=(Gv ok).2.1;omega
    ·obtain⟨t',h1,h2,h3,h4⟩:=FA kk.thr (kk.num j (by omega) hj);have g1:(AY lt t').id=(Aa lo j).id/1000:=h2;have g2:(Aa lo j).id%1000<=(AY lt t').made:=h4;have g3:(AY lt t).id=lt[t].id:=(by rw[Eh ht]);have e3:t'=t:=(RJ kk.thr).inj h1 ht (by show(AY lt t').id=(AY lt t).id;rw[g1,g3,e'];omega);subst e3;rw[Eh ht,e']at g2;omega
theorem Vs(f:MN o){d:ByteArray}(h1:o.kind=1)(hd:Br d 40=true):MN ⟨o.id,o.kind,o.up,o.b1,o.c1,d,o.jA,o.own,o.b2,o.c2⟩:=by
 refine⟨f.l1,f.l2,f.own,hd,f.jA,?_⟩;have:=f.kind;unfold GU at this ⊢;simp only[h1,if_true]at this ⊢;exact this
theorem Sm(f:MN o){d:AF}(h1:o.kind=2)(hd:Ee d.n d.f=true):MN ⟨o.id,o.kind,o.up,o.b1,o.c1,o.data,d,o.own,o.b2,o.c2⟩:=by
 refine⟨f.l1,f.l2,f.own,f.data,hd,?_⟩;have:=f.kind;unfold GU at this ⊢;simp only[h1]at this ⊢;exact this
theorem JE{f:Nat->ByteArray}:Ee n f=true↔n<=8/\∀i,i<n->Br (f i) 40=true:=by
 unfold Ee;simp only[Bool.and_eq_true,decide_eq_true_eq,List.all_eq_true,List.mem_range]
theorem Zf(ok:okL lt lo=true)(ht:t<lt.length)(so:s.ok=true)(p:FV lt[t] s lt lo t c tx lt' lo'):okL lt' lo'=true:=by
 have X:=Fq ok _ (List.getElem_mem ht);have sf:=GP so;cases p with
 |k1 h x e1 e2 p=>
  subst e1 e2;rcases p with⟨_,_,rfl,_⟩|⟨_,hn,_,a,cc,rfl⟩
  ·rw[UC ht];exact ok
  ·have:=X.made;exact IR ok ht ⟨X.id,X.l1,X.l2,Zm X (fun e=>hn (.inr e)) rfl,by dsimp only;omega⟩ rfl (by dsimp only;omega)
 |k12 h x e1 e2 e3 p=>
  subst e1 e2;rcases p with⟨_,_,rfl⟩|⟨_,_,d,sd,rfl⟩
  ·rw[UC ht];exact ok
  ·exact IR ok ht ⟨X.id,Ov sd sf.l1,X.l2,X.own,X.made⟩ rfl (Int.le_refl _)
 |k14 h x e1 e2 e3 p=>
  subst e1 e2;rcases p with⟨_,_,rfl⟩|⟨_,_,a,cc,rfl⟩
  ·rw[UC ht];exact ok
  ·exact IR ok ht ⟨X.id,X.l1,X.l2,Yw X.own,X.made⟩ rfl (Int.le_refl _)
 |make h p=>exact YA ok ht so h p
 |drop h e1 e3 p=>
  subst e1;rcases p with⟨_,_,rfl⟩|⟨_,_,u,hu,u0,rfl⟩
  ·exact ok
  ·exact Zt ok hu u0
 |k6 h p=>
  rcases p with⟨_,_,_,rfl,rfl⟩|⟨u,hu,⟨_,_,_,rfl,rfl⟩|⟨_,_,_,rfl,rfl⟩⟩
  ·exact ok
  ·exact ok
  ·obtain⟨_,ul,i1,k1,_⟩:=Eb hu;rw[AM ul];exact KY ok ul (Vs (E8 ok _ (List.getElem_mem ul)) k1 sf.data) rfl rfl rfl
 |k7 h p=>
  rcases p with⟨_,_,_,rfl,rfl⟩|⟨u,hu,_,_,rfl,rfl⟩
  ·exact ok
  ·exact ok
 |k8 h p=>
  rcases p with⟨_,_,_,rfl,rfl⟩|⟨u,hu,⟨_,_,_,rfl,rfl⟩|⟨v,hv,⟨_,_,_,rfl,rfl⟩|⟨kv,_,_,_,rfl,rfl⟩⟩⟩
  ·exact ok
  ·exact ok
  ·exact ok
  ·obtain⟨_,ul,_⟩:=Eb hu;obtain⟨vl,_⟩:=Hc hv;rw[AM vl]at kv;rw[AM vl,AM ul];exact KY ok vl (Vs (E8 ok _ (List.getElem_mem vl)) kv (E8 ok _ (List.getElem_mem ul)).data) rfl rfl rfl
 |k9 h p=>
  rcases p with⟨_,_,_,rfl,rfl⟩|⟨u,hu,⟨_,_,_,rfl,rfl⟩|⟨_,_,_,_,rfl,rfl⟩|⟨_,n8,_,_,rfl,a,c',rfl⟩⟩
  ·exact ok
  ·exact ok
  ·exact ok
  ·obtain⟨_,ul,i1,k1,_⟩:=Eb hu;rw[AM ul]at n8 ⊢;have f:=E8 ok _ (List.getElem_mem ul);have it:=JE.1 f.jA;refine KY ok ul (Sm f k1 (JE.2 ⟨by dsimp only;omega,fun i hi=>?_⟩)) rfl rfl rfl;dsimp only;unfold Dl;split
   ·rename_i h1;exact it.2 i h1
   ·exact sf.data
 |k10 h p=>
  rcases p with⟨_,_,_,rfl,rfl⟩|⟨u,hu,⟨_,_,_,rfl,rfl⟩|⟨_,_,_,_,rfl,rfl⟩|⟨_,n0,_,_,rfl,a,c',rfl⟩⟩
  ·exact ok
  ·exact ok
  ·exact ok
  ·obtain⟨_,ul,i1,k1,_⟩:=Eb hu;rw[AM ul]at n0 ⊢;have f:=E8 ok _ (List.getElem_mem ul);have it:=JE.1 f.jA;refine KY ok ul (Sm f k1 (JE.2 ⟨by dsimp only;omega,fun i hi=>?_⟩)) rfl rfl rfl;dsimp only at hi ⊢;exact it.2 (i+1) (by omega)
 |k13 h p=>
  rcases p with⟨_,_,_,rfl,rfl⟩|⟨u,hu,⟨_,_,_,rfl,rfl⟩|⟨_,_,_,_,rfl,rfl⟩|⟨_,nb,_,_,a,c',rfl,rfl⟩⟩
  ·exact ok
  ·exact ok
  ·exact ok
  ·obtain⟨_,ul,i1,k1,_⟩:=Eb hu;rw[AM ul]at nb ⊢;have f:=E8 ok _ (List.getElem_mem ul);obtain⟨_,x2,x3⟩:=Hb.1 X.own;obtain⟨_,_,f3⟩:=Hb.1 f.own;refine IR ok ht ⟨X.id,X.l1,X.l2,N6 (by omega) (Oh x2 _) (fun x hx=>?_),X.made⟩ rfl (Int.le_refl _);rcases RO hx with hx|⟨i,hi,rfl⟩
   ·exact x3 x hx
   ·exact f3 _ (List.mem_map.2 ⟨i,List.mem_range.2 hi,rfl⟩)
 |k15 h p=>
  rcases p with⟨_,_,_,rfl,rfl⟩|⟨u,hu,_,_,rfl,rfl⟩
  ·exact ok
  ·exact ok
theorem Kf(ok:okL lt lo=true)(p:Gb lt lo s c tx lt' lo'):okL lt' lo'=true:=by
 cases p with
 |form h hc ht e1 e2=>subst e1 e2;exact ok
 |thread h hn hc ht e1 e2=>subst e1 e2;exact ok
 |act h t ht hn p=>exact Zf ok ht h p
open Go.BigFrame Go.Shelf Go.Proofs.Tryz
def Qt(i:Nat):Ae:=⟨i,1,An,2,An,Fo,0⟩
def FQ(j:Nat):List Ae:=(List.range j).map (fun i=>Qt (i+1))
def Pj:Ab:=⟨1,3,0,1,An,⟨#[]⟩,⟨none,0,0,fun _=>⟨#[]⟩⟩,Fo,0,An⟩
theorem Gj(j:Nat):(FQ j).length=j:=by simp[FQ]
theorem UH(j:Nat):FQ (j+1)=FQ j++[Qt (j+1)]:=by simp[FQ,List.range_succ]
theorem XW(w:World)(B:Nat)(hb:B<=w.heap.size):AO (w.alloc (.cells #[.int .i64 1,.int .i64 3,.int .i64 0,.int .i64 1,.slice none 0 0,.string (ByteArray.mk #[]),.slice none 0 0,.slice none 0 0,.int .i64 0,.slice none 0 0] 63)) B (.slice (w) 1 1) [Pj]:=by
 refine⟨rfl,.inr ⟨w,1,#[.int .i64 1,.int .i64 3,.int .i64 0,.int .i64 1,.slice none 0 0,.string (ByteArray.mk #[]),.slice none 0 0,.slice none 0 0,.int .i64 0,.slice none 0 0],rfl,hb,heap_alloc_new w _,Nat.le_refl _,by unfold maxLen;omega,rfl,?_⟩⟩;rfl
theorem NU{m i:Nat}(hi:i<m):AY (FQ m) i=Qt (i+1):=by
 rw[Eh (by rw[Gj];exact hi)];simp[FQ]
theorem ZD:MN Pj:=⟨rfl,rfl,rfl,LZ,rfl,by simp[GU,Pj,Dv,An,Fo]⟩
theorem Zo{m:Nat}(h1:1<=m)(h9:m<=9):okL (FQ m) [Pj]=true:=by
 refine Bv.2 ⟨?_,Nat.le_refl _,rfl,fun i hi=>?_,fun i j hij hj=>?_,fun i i0 hi=>?_,fun i i0 hi=>?_,fun i hi=>?_⟩
 ·show Bs (FQ m).length (AY (FQ m))=true;rw[Gj];refine Px h1 h9 (fun i hi=>?_) (fun i j hij hj=>?_)
  ·rw[NU hi];exact Io.2 ⟨by simp[Qt];omega,rfl,rfl,rfl,by simp[Qt]⟩
  ·show(AY (FQ m) i).id<(AY (FQ m) j).id;rw[NU (by omega),NU hj];simp[Qt];omega
 ·have hi':i<1:=hi;obtain rfl:i=0:=by omega
  exact IY.2 ZD
 ·have hj':j<1:=hj;omega
 ·have hi':i<1:=hi;omega
 ·have hi':i<1:=hi;omega
 ·have hi':i<1:=hi;obtain rfl:i=0:=by omega
  exact UQ.root
theorem Sq(tmps:Array Value)(W:World)(P:Nat)(x y:Value)(h:Ah W P (.cells #[x,y] 27))(h2:tmps[2]? =some (.pointer P))(h3:tmps[3]? =some (.bool true)):
 (results Tryz.f33 tmps).run prog W= .ok (.tuple #[.agg #[x,y],.bool true]) W:=by
 obtain⟨z0,z1⟩:=h.two;simp[results,Tryz.results33,go_sem,h2,h3,z0,z1]
theorem Pq(m:Nat)(w:World)(h1:1<=m)(h9:m<=9):
 Calls prog 33 #[.int .i64 m] w fun e w'=>∃(ta oa:Option Addr) (ca co:Nat),e= .returned (.tuple #[.agg #[.slice ta (FQ m).length ca,.slice oa 1 co],.bool true])/\By w' w (.slice ta (FQ m).length ca) (.slice oa [Pj].length co) (FQ m) [Pj]/\Below w w w':=by
 have I1:D9 (m:Int) 1 9=true:=by simp[D9];omega
 have n3:No (.cells #[.slice none 0 0,.slice none 0 0] 27):=⟨⟩;have C1:=hid (Ce (m:Int) 1 9 (w.alloc n3));rw[I1]at C1;have n4:Nw ((w.alloc n3).alloc (.cells #[.int .i64 1,.int .i64 3,.int .i64 0,.int .i64 1,.slice none 0 0,.string (ByteArray.mk #[]),.slice none 0 0,.slice none 0 0,.int .i64 0,.slice none 0 0] 63)):=⟨⟩;have n5:No (.cells #[.slice none 0 0,.slice (some ⟨w.heap.size+1,0,none⟩) 1 1] 27):=⟨⟩;have n1:Nw ((n4:World).alloc n5):=⟨⟩;have R0:Hid (Ah n1 w n3):=hid (((Ah.new w _).alloc _).alloc _);have K0:Hid (Ah n1 (w.heap.size+1+1) n5):=hid (by have:=Ah.new n4 n5;simpa using this);have n6:Nv (.slice (some ⟨w.heap.size+1,0,none⟩) 1 1):=⟨⟩;have O0:Hid (AO n1 w n6 [Pj]):=hid (by
  have h:=XW (w.alloc n3) w (by simp);have e:(w.alloc n3).heap.size=w.heap.size+1:=by simp
  rw[e]at h;exact World.ownsRow.alloc h _)
 have B0:Hid (Below w w n1):=hid (((Be w _).alloc (by simp) _).alloc (by simp;omega) _);have z0:w.heap.size+3<=(n1:World).heap.size:=by simp
 go_enter func33,ntmps33
 go_wp2_with fail
 refine C1.out.mono ?_;rintro e w1 ⟨rfl,rfl⟩;go_wp2;generalize (n1:World)=V at *;go_loopw [5] (fun i wr=>∃(j:Nat) (ta:Option Addr) (ca:Nat),j<=m/\i= .int .i64 ((j:Int)+1)/\Ah wr w n3/\Ah wr (w.heap.size+1+1) (.cells #[.slice ta j ca,.slice (some ⟨w.heap.size+1,0,none⟩) 1 1] 27)/\AO wr w n6 [Pj]/\Dn wr (w.heap.size+3) (.slice ta j ca) (FQ j)/\Below w w wr/\w.heap.size+3<=wr.heap.size) (fun i _=>m+1-(intOf i).toNat)
 case atStart=>exact⟨0,none,0,Nat.zero_le _,rfl,R0,K0,O0,Dn.nil _ _,B0,z0⟩
 case round=>
  obtain⟨j,ta,ca,hj,rfl,r,k,o,ot,be,zz⟩:=hrel;clear R0 K0 O0 B0 z0 C1;have RR:=hid r;have KK:=hid k;have OO:=hid o;have TT:=hid ot;have BB:=hid be;clear r k o ot be;obtain⟨k0,k1⟩:=KK.out.two;have kf:=KK.out.jC;have wj:IntKind.i64.wrap ((j:Int)+1+1)=(j:Int)+1+1:=by rw[IntKind.wrap_i64];omega
  by_cases hlt:j<m
  ·have i1:(j:Int)+1<=(m:Int):=(by omega);have HLT:=hid hlt;have n2:No (.cells #[.int .i64 ((j:Int)+1),.int .i64 1,.slice none 0 0,.int .i64 2,.slice none 0 0,.slice none 0 0,.int .i64 0] 57):=⟨⟩;have QL:Hid (Bp (wr.alloc n2) (some ⟨wr,0,none⟩) 1 (Cf [Qt (j+1)])):=hid (Dn.one wr (Qt (j+1)));have QO:=hid (World.ownsRow.alloc TT n2);have lj:=Gj j;have KA:=hid (KK.out.alloc n2);have RA:=hid (RR.out.alloc n2);have OA:=hid (World.ownsRow.alloc OO n2);have BA:=hid (BB.out.alloc BB.out.size n2);have za:w.heap.size+3<=(wr.alloc n2).heap.size:=(by simp;omega);clear lj;go_wp2_with(at_builtin;refine KH _ rfl _ _ rfl (w.heap.size+3) (.slice ta j ca) (FQ j) rfl QO _ _ (Qt (j+1)) rfl QL (by rw[Gj];omega) za ?_;intro a7 c7 w7 o7 g7;rw[Gj]at o7 ⊢;rw[<-UH]at o7;have O7:=hid o7;have G7:=hid g7;clear o7 g7;have nb:∀p,p<w.heap.size+3->some p≠Value.ownBlock (.slice ta j ca):=(fun p hp e=>by have:=(World.ownsRow.lt QO p e.symm).1;omega);have K7:=hid (KA.out.grown G7 (nb _ (by omega)));have R7:=hid (RA.out.grown G7 (nb _ (by omega)));have OW7:=hid (World.ownsRow.kept OA G7 (Or.inr (nb (w.heap.size+1) (by omega))));have B7:=hid (BA.out.trans (below_grown G7 (by have:=BB.out.size;omega) (fun p e=>by have:=(World.ownsRow.lt QO p e).1;omega)));have z7:w.heap.size+3<=w7.heap.size:=Nat.le_trans za G7.out.size;have k7f:=K7.out.jC;obtain⟨k70,k71⟩:=K7.out.two;clear nb)
   go_roundw;case rel=>
    refine⟨j+1,a7,c7,by have:=HLT.out;omega,by go_num,R7.out.other (by omega) _,K7.out.jB (i:=0) _,AO.set OW7 K7 (by decide) _,Dn.set O7 K7 (by decide) _,B7.out.setCell (by dsimp only;omega) _,by rw[nblk_setCell];exact z7⟩
   case measure=>have:=HLT.out;simp[intOf];omega
  ·obtain rfl:j=m:=by omega
   have i1:¬(j:Int)+1<=(j:Int):=(by omega);obtain⟨r0,r1⟩:=RR.out.two;have rf:=RR.out.jC;have lj:=Gj j;have n7:Nv (.slice (some ⟨w.heap.size+1,0,none⟩) 1 1):=⟨⟩;have RZ:=hid ((RR.out.jB (i:=0) (.slice ta j ca)).jB (i:=1) n7);go_wp2;refine bodyPost_ret (Sq _ _ w _ _ RZ rfl rfl) rfl ⟨ta,some ⟨w.heap.size+1,0,none⟩,ca,1,rfl,?_,?_⟩
   ·have k1:By wr w (.slice ta j ca) n7 (FQ j) [Pj]:=⟨Dn.base TT (by omega),OO,fun x hx=>by
     obtain⟨i,_,rfl⟩:=List.mem_map.1 hx;exact⟨Aj,Aj,GK⟩,fun x hx=>by
     obtain rfl:=List.mem_singleton.1 hx;exact⟨Aj,Ge,GK,Aj⟩,fun x hx=>by
     obtain⟨i,_,rfl⟩:=List.mem_map.1 hx;exact⟨Nat.le_refl _,Nat.zero_le _⟩,fun x hx=>by
     obtain rfl:=List.mem_singleton.1 hx;exact⟨Nat.le_refl _,Nat.zero_le _⟩⟩
    exact(k1.set RR (.inl rfl) _).set (RR.out.jB (i:=0) _) (.inl rfl) _
   ·exact(BB.out.setCell nr _).setCell nr _
def Ro(x:Int):Prop:= -9223372036854775808<=x/\x<9223372036854775808
theorem Ro.w64(x:Int):Ro (wrap64 x):=by unfold wrap64 Ro;omega
theorem Ro.of{x:Int}(h1: -9223372036854775808<=x)(h2:x<9223372036854775808):Ro x:=⟨h1,h2⟩
theorem Yb(w0:World)(rb:Nat)(a:Option Addr)(n cap:Nat)(lo hi:Nat)(w:World)(hl:lo<=hi)(hh:hi<=1099511627776)(h:Rd w0 w rb a n cap):
 Calls prog 70 #[.pointer rb,.int .i64 lo,.int .i64 hi] w fun e w'=>∃x:Int,e= .returned (.int .i64 x)/\Ro x/\Rd w0 w' rb a n cap/\w.grownBy w' (some rb):=by
 have HR:Hid (Rd w0 w rb a n cap):=h;clear h;have w1:IntKind.i64.wrap ((hi:Int)-lo)=(hi:Int)-lo:=by rw[IntKind.wrap_i64];omega
 have w2:IntKind.i64.wrap ((hi:Int)-lo+1)=(hi:Int)-lo+1:=by rw[IntKind.wrap_i64];omega
 have nl:¬(hi:Int)<(lo:Int):=by omega
 go_enter func70,ntmps70
 go_wp2_with fail
 refine(AH w0 rb a n cap 8 _ (by omega) HR).mono ?_;rintro e u1 ⟨x,rfl,_,x8,R1,g1⟩;have HR1:Hid (Rd w0 u1 rb a n cap):=R1;clear R1;by_cases t0:x=0
 ·subst t0;go_wp2;go_ret;exact⟨_,rfl,.of (by omega) (by omega),HR1,g1⟩
 ·by_cases t1:x=1
  ·subst t1;go_wp2;go_ret;exact⟨_,rfl,.of (by omega) (by omega),HR1,g1⟩
  ·have t0':((x:Int)==0)=false:=(by simpa using t0);have t1':((x:Int)==1)=false:=(by simp;omega);go_wp2_with fail
   refine(SK w0 rb a n cap _ HR1).mono ?_;rintro e u2 ⟨y,rfl,R2,g2⟩;have HR2:Hid (Rd w0 u2 rb a n cap):=R2;clear R2;have m1:IntKind.u64.wrap ((hi:Int)-lo+1)=(hi:Int)-lo+1:=(by rw[IntKind.wrap_u64];omega);have m0:¬((hi:Int)-lo+1)=0:=(by omega);go_wp2;go_ret;exact⟨_,rfl,.w64 _,HR2,CG g1 g2⟩
theorem QJ(w0:World)(rb:Nat)(a:Option Addr)(n cap:Nat)(lo hi:Nat)(w:World)(hl:lo<=hi)(hh:hi<=1099511627776)(h:Rd w0 w rb a n cap):
 Calls prog 35 #[.pointer rb,.int .i64 lo,.int .i64 hi] w fun e w'=>∃x:Int,e= .returned (.int .i64 x)/\Ro x/\Rd w0 w' rb a n cap/\w.grownBy w' (some rb):=by
 have HR:Hid (Rd w0 w rb a n cap):=h;clear h;have w1:IntKind.i64.wrap ((lo:Int)-1)=(lo:Int)-1:=by rw[IntKind.wrap_i64];omega
 have w2:IntKind.i64.wrap ((hi:Int)+1)=(hi:Int)+1:=by rw[IntKind.wrap_i64];omega
 go_enter func35,ntmps35
 go_wp2_with fail
 refine(El w0 rb a n cap 24 _ (by omega) HR).mono ?_;rintro e u1 ⟨t,rfl,R1,g1⟩;have HR1:Hid (Rd w0 u1 rb a n cap):=R1;clear R1;cases t with
 |true=>
  go_wp2_with fail
  have lr:=HR1.out.lt;refine(AH w0 rb a n cap 4 _ (by omega) (HR1.out.below (Be _ _))).mono ?_;rintro e u2 ⟨x,rfl,_,x4,R2,g2⟩;have x4':=x4 (by omega);have HR2:Hid (Rd w0 u2 rb a n cap):=R2;have gN:w.grownBy u2 (some rb):=CG (DV g1 (World.grownBy_alloc u1 _ none) (fun j e=>by cases e)) g2;have Bk:Ah u2 u1 (.cells #[.int .i64 ((lo:Int)-1),.int .i64 ((hi:Int)+1),.int .i64 (-9223372036854775808),.int .i64 9223372036854775807] 2):=(Ah.new u1 _).grown g2 (by simp;omega);unfold Ah at Bk;have c0:u2.cell? ⟨u1,0,none⟩=some (.int .i64 ((lo:Int)-1)):=by simp[World.cell?,Bk]
  have c1:u2.cell? ⟨u1,1,none⟩=some (.int .i64 ((hi:Int)+1)):=by simp[World.cell?,Bk]
  have c2:u2.cell? ⟨u1,2,none⟩=some (.int .i64 (-9223372036854775808)):=by simp[World.cell?,Bk]
  have c3:u2.cell? ⟨u1,3,none⟩=some (.int .i64 9223372036854775807):=by simp[World.cell?,Bk]
  clear R2 x4 Bk g2;have hx:x=0∨x=1∨x=2∨x=3:=by omega
  rcases hx with rfl|rfl|rfl|rfl;all_goals
   clear x4';go_wp2;go_ret;exact⟨_,rfl,.of (by omega) (by omega),HR2,gN⟩
 |false=>
  go_wp2_with fail
  refine(Yb w0 rb a n cap lo hi _ hl hh HR1).mono ?_;rintro e u2 ⟨x,rfl,ix,R2,g2⟩;have HR2:Hid (Rd w0 u2 rb a n cap):=R2;clear R2;go_wp2;go_ret;exact⟨_,rfl,ix,HR2,CG g1 g2⟩
end Go.Proofs.YtefoofaocbjdoaaGreatDoor
