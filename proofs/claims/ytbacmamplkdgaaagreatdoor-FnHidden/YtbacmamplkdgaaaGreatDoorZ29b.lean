import Derived.Test.YtbacmamplkdgaaaGreatDoorZ6b
import Derived.Test.YtbacmamplkdgaaaGreatDoorZ13b
import Derived.Test.YtbacmamplkdgaaaGreatDoorNE3b
import Derived.Test.YtbacmamplkdgaaaGreatDoorND1b
import Derived.Test.YtbacmamplkdgaaaGreatDoorZ24b
set_option maxRecDepth 100000
set_option maxHeartbeats 8000000
namespace Go.Proofs.YtbacmamplkdgaaaGreatDoor
open Go Go.RowKit Go.Deep Go.Maps
theorem ObjV.same.refl(t:ObjV):t.same t:=⟨rfl,rfl,rfl,rfl,⟨rfl,rfl,rfl⟩,rfl,⟨rfl,rfl⟩,⟨rfl,rfl⟩,rfl,⟨rfl,rfl,rfl⟩⟩
theorem ObjV.new.below{B:Nat}{w w':World}{t:ObjV}(h:t.new B w)(hb:Below w.heap.size w w'):t.new B w':=⟨h.1.below hb,h.2.1.below hb,h.2.2.1.below hb,h.2.2.2.below hb⟩
theorem pair_iff{n:Nat}{h:Nat→Int}:((List.range n).map h).Pairwise (· <·)↔∀i j,i<j→j<n→h i<h j:=by
 rw[List.pairwise_iff_getElem];constructor
 ·intro H i j hij hj;have:=H i j (by simp;omega) (by simp;omega) hij;simpa using this
 ·intro H i j hi hj hij;simp at hi hj;simpa using H i j hij hj
theorem ownOk_list{n:Nat}{h:Nat→Int}:ownOk n h=true↔n≤10∧((List.range n).map h).Pairwise (· <·)∧∀x∈(List.range n).map h,1≤x∧x≤9999:=by
 unfold ownOk;simp only[Bool.and_eq_true,decide_eq_true_eq,List.all_eq_true,List.mem_range];constructor
 ·rintro⟨h1,h2⟩;refine⟨h1,?_,?_⟩
  ·rw[pair_iff];refine rises_of (fun i i0 hi=>?_);have:=h2 i hi;unfold ownAt at this;simp only[Bool.and_eq_true,Bool.or_eq_true,decide_eq_true_eq,beq_iff_eq]at this;rcases this.2 with e|e
   ·omega
   ·exact e
  ·intro x hx;obtain⟨i,hi,rfl⟩:=List.mem_map.1 hx;have:=h2 i (List.mem_range.1 hi);unfold ownAt at this;simp only[Bool.and_eq_true,inB_iff]at this;exact this.1
 ·rintro⟨h1,h2,h3⟩;refine⟨h1,fun i hi=>?_⟩;rw[pair_iff]at h2;unfold ownAt;simp only[Bool.and_eq_true,Bool.or_eq_true,decide_eq_true_eq,beq_iff_eq,inB_iff];refine⟨h3 _ (List.mem_map.2 ⟨i,List.mem_range.2 hi,rfl⟩),?_⟩;by_cases e:i=0
  ·exact .inl e
  ·exact .inr (h2 (i-1) i (by omega) hi)
theorem ownOk_of{L:List Int}(h1:L.length≤10)(h2:L.Pairwise (· <·))(h3:∀x∈L,1≤x∧x≤9999):ownOk L.length (nthI L)=true:=by
 rw[ownOk_list,range_nth];exact⟨h1,h2,h3⟩
theorem thr_refl(t:ThrV):t.same t:=⟨rfl,rfl,⟨rfl,rfl,rfl⟩,rfl,⟨rfl,rfl,rfl⟩,⟨rfl,rfl⟩,rfl⟩
theorem set_at{α:Type}{l:List α}{t j:Nat}{x z:α}(hj:j<l.length):(l.set t x).getD j z=if j=t then x else l.getD j z:=by
 rw[List.getD_eq_getElem?_getD,List.getD_eq_getElem?_getD,List.getElem?_set];by_cases e:t=j
 ·subst e;simp[hj]
 ·have e':¬j=t:=fun h=>e h.symm;simp[e,e']
section
variable {lt:List ThrV}{lo:List ObjV} (ok:okL lt lo=true)
include ok
theorem okL_setT{t:Nat}(ht:t<lt.length){x:ThrV}(hx:ThrF x)(hi:x.id=lt[t].id)(hm:lt[t].made≤x.made):okL (lt.set t x) lo=true:=by
 have e:(kOf none 0 none 0 lt lo).T t=lt[t]:=atOwnT_get ht;have k:=(kerOk_iff.1 ok).setT (t:=t) (thrF_iff.2 hx) (by rw[e];exact hi) (by rw[e];exact hm);have h:=kerOk_iff.2 k;refine(kerOk_same ?_).trans h;refine⟨by simp[kOf,KerV.setT],fun j hj=>?_,rfl,fun j hj=>ObjV.same.refl _⟩;have hj':j<lt.length:=hj;have e2:(kOf none 0 none 0 (lt.set t x) lo).T j=((kOf none 0 none 0 lt lo).setT t x).T j:=set_at hj';rw[e2];exact thr_refl _
theorem okL_setO{u:Nat}(hu:u<lo.length){x:ObjV}(hx:ObjF x)(h1:x.id=lo[u].id)(h2:x.kind=lo[u].kind)(h3:x.up=lo[u].up):okL lt (lo.set u x)=true:=by
 have e:(kOf none 0 none 0 lt lo).O u=lo[u]:=atOwnOb_get hu;have k:=(kerOk_iff.1 ok).setO (i:=u) (objF_iff.2 hx) (by rw[e];exact h1) (by rw[e];exact h2) (by rw[e];exact h3);have h:=kerOk_iff.2 k;refine(kerOk_same ?_).trans h;refine⟨rfl,fun j hj=>thr_refl _,by simp[kOf,KerV.setO],fun j hj=>?_⟩;have hj':j<lo.length:=hj;have e2:(kOf none 0 none 0 lt (lo.set u x)).O j=((kOf none 0 none 0 lt lo).setO u x).O j:=set_at hj';rw[e2];exact ObjV.same.refl _
theorem okL_root:atOwnOb lo 0=atOwnOb lo 0∧(atOwnOb lo 0).id=1∧(atOwnOb lo 0).up=0:=by
 have r:=(kerOk_iff.1 ok).root;unfold rootB at r;simp only[Bool.and_eq_true,beq_iff_eq]at r;exact⟨rfl,r.1.1,r.2⟩
theorem okL_pos{j:Nat}(hj:j<lo.length):1≤(atOwnOb lo j).id:=by
 have r:=(okL_root ok).2.1;by_cases e:j=0
 ·subst e;omega
 ·have h:=(kerOk_iff.1 ok).rise 0 j (by omega) hj;have h':(atOwnOb lo 0).id<(atOwnOb lo j).id:=h;omega
end
theorem insL_split(x:ObjV):∀lo:List ObjV,∃p,p≤lo.length∧insL x lo=lo.take p++x::lo.drop p∧(∀j,j<p→¬x.id<(atOwnOb lo j).id)∧(p<lo.length→x.id<(atOwnOb lo p).id)
 |[]=>⟨0,Nat.le_refl _,rfl,fun j hj=>absurd hj (Nat.not_lt_zero j),fun h=>absurd h (Nat.not_lt_zero 0)⟩
 |y::r=>by
  by_cases h:x.id<y.id
  ·refine⟨0,Nat.zero_le _,by simp[insL,h],fun j hj=>absurd hj (Nat.not_lt_zero j),fun _=>?_⟩;simpa[atOwnOb]using h
  ·obtain⟨p,h1,h2,h3,h4⟩:=insL_split x r;refine⟨p+1,by simpa using h1,by simp[insL,h,h2],fun j hj=>?_,fun hp=>?_⟩
   ·cases j with
    |zero=>simpa[atOwnOb]using h
    |succ j=>have:=h3 j (by omega);simpa[atOwnOb]using this
   ·have:=h4 (by simpa using hp);simpa[atOwnOb]using this
theorem ins_at{lo:List ObjV}{p j:Nat}{x:ObjV}(hp:p≤lo.length):atOwnOb (lo.take p++x::lo.drop p) j=insO (atOwnOb lo) p x j:=by
 unfold atOwnOb insO;simp only[List.getD_eq_getElem?_getD];have lp:(lo.take p).length=p:=by simp[hp]
 by_cases h1:j<p
 ·rw[if_pos h1,List.getElem?_append_left (by omega),List.getElem?_take_of_lt h1]
 ·rw[if_neg h1,List.getElem?_append_right (by omega),lp];by_cases h2:j=p
  ·subst h2;simp
  ·rw[if_neg h2];obtain⟨m,rfl⟩:∃m,j=p+m+1:=⟨j-p-1,by omega⟩;have e:p+m+1-p=m+1:=(by omega);rw[e,List.getElem?_cons_succ,List.getElem?_drop];congr 2
theorem okL_ins{lt:List ThrV}{lo:List ObjV}(ok:okL lt lo=true){x:ObjV}(hx:ObjF x)(hn:numAt lt.length (atOwnT lt) x.id=true){u:Nat}(hu:atL lo x.up=some u)(hk:(atOwnOb lo u).kind=3)(hne:∀j,j<lo.length→(atOwnOb lo j).id≠x.id)(h1:1<x.id):okL lt (insL x lo)=true:=by
 obtain⟨p,hp,e,lo',hi'⟩:=insL_split x lo;have kk:=kerOk_iff.1 ok;have u1:=findI_some hu;have p0:0<p:=by
  by_cases h:p=0
  ·subst h;have:=hi' (by have:=okL_on ok;omega);have:=(okL_root ok).2.1;omega
  ·omega
 have k:=kk.ins (p:=p) (x:=x) p0 hp (fun j hj=>by
  have h1:=lo' j hj;have h2:=hne j (by omega);show(atOwnOb lo j).id<x.id;omega) (fun j hj hjn=>by
  have h0:=hi' (by have:j<lo.length:=hjn;omega);show x.id<(atOwnOb lo j).id;by_cases ej:j=p
  ·subst ej;exact h0
  ·have h2:(atOwnOb lo p).id<(atOwnOb lo j).id:=kk.rise p j (by omega) hjn;omega) (objF_iff.2 hx) hn ⟨u,u1.1,u1.2,hk⟩
 have h:=kerOk_iff.2 k;refine(kerOk_same ?_).trans h;have el:(insL x lo).length=lo.length+1:=insL_len;refine⟨rfl,fun j hj=>thr_refl _,el,fun j hj=>?_⟩;have e2:(kOf none 0 none 0 lt (insL x lo)).O j=((kOf none 0 none 0 lt lo).ins p x).O j:=by
  show atOwnOb (insL x lo) j=insO (atOwnOb lo) p x j;rw[e];exact ins_at hp
 rw[e2];exact ObjV.same.refl _
theorem hasB_mem{G:List Int}{x:Int}:hasB G.length (nthI G) x=true↔x∈G:=by
 unfold hasB;rw[List.any_eq_true];constructor
 ·rintro⟨i,hi,e⟩;have hi':=List.mem_range.1 hi;have:nthI G i=x:=by simpa using e
  rw[←this];unfold nthI;rw[List.getD_eq_getElem?_getD,List.getElem?_eq_getElem hi'];exact List.getElem_mem hi'
 ·intro h;obtain⟨i,hi,e⟩:=List.mem_iff_getElem.1 h;exact⟨i,List.mem_range.2 hi,by simp[nthI,hi,e]⟩
theorem lo_map(lo:List ObjV):(List.range lo.length).map (atOwnOb lo)=lo:=by
 refine List.ext_getElem (by simp) (fun i h1 h2=>?_);simp[atOwnOb,h2]
theorem okL_cut{lt:List ThrV}{lo:List ObjV}(ok:okL lt lo=true){x:Int}{u:Nat}(hu:atL lo x=some u)(u0:0<u):okL lt (stayL (goneL lo u) lo lo.length)=true:=by
 have kk:=kerOk_iff.1 ok;obtain⟨ul,_⟩:=findI_some hu;have h0:∀j,j<lo.length→(fun i=>(atOwnOb lo i).id) j≠(fun i=>(atOwnOb lo i).up) 0:=fun j hj=>by
  have:=okL_pos ok hj;have:=(okL_root ok).2.2;show(atOwnOb lo j).id≠(atOwnOb lo 0).up;omega
 have rise:Rises (fun i=>(atOwnOb lo i).id) lo.length:=kk.rise;have hc:NoCyc (fun i=>(atOwnOb lo i).id) (fun i=>(atOwnOb lo i).up) lo.length u:=ker_noCyc ok ul;have gone:∀y,hasB (goneL lo u).length (nthI (goneL lo u)) y=true↔∃i,i<lo.length∧(∃m,m<lo.length∧parIt (fun i=>(atOwnOb lo i).id) (fun i=>(atOwnOb lo i).up) lo.length m i=some u)∧(atOwnOb lo i).id=y:=by
  intro y;rw[hasB_mem];unfold goneL;rw[sortL_mem,List.mem_map];constructor
  ·rintro⟨i,hi,e⟩;have:=(mem_pre rise h0 ul).1 hi;exact⟨i,this.1,this.2,e⟩
  ·rintro⟨i,h1,h2,e⟩;exact⟨i,(mem_pre rise h0 ul).2 ⟨h1,h2⟩,e⟩
 have k:=kk.cut (keep:=fun i=> !hasB (goneL lo u).length (nthI (goneL lo u)) (atOwnOb lo i).id) (by
  simp only[Bool.not_eq_true'];rw[←Bool.not_eq_true,gone];rintro⟨i,hi,⟨m,_,hm⟩,e⟩;have e0:i=0:=rise.inj hi (by omega) e;subst e0;cases m with
  |zero=>simp[parIt]at hm;omega
  |succ m=>simp[parIt,par]at hm) (fun i p i0 hi hp e hk=>by
  simp only[Bool.not_eq_true']at hk ⊢;rw[←Bool.not_eq_true,gone]at hk ⊢;rintro⟨j,hj,⟨m,_,hm⟩,ej⟩;have e1:j=p:=rise.inj hj hp ej;subst e1;refine hk ⟨i,hi,?_,rfl⟩;have pi:par (fun i=>(atOwnOb lo i).id) (fun i=>(atOwnOb lo i).up) lo.length i=some j:=by
   unfold par;rw[if_neg (by omega)];have e':(atOwnOb lo i).up=(atOwnOb lo j).id:=e.symm;show findI (fun i=>(atOwnOb lo i).id) lo.length (atOwnOb lo i).up=some j;rw[e'];exact findI_eq rise hp
  have pm:parIt (fun i=>(atOwnOb lo i).id) (fun i=>(atOwnOb lo i).up) lo.length (1+m) i=some u:=by
   rw[parIt_add,parIt_one,pi];exact hm
  exact⟨1+m,height hc hi pm,pm⟩)
 have h:=kerOk_iff.2 k;refine(kerOk_same ?_).trans h;have es:stayL (goneL lo u) lo lo.length=(keptL lo.length (fun i=> !hasB (goneL lo u).length (nthI (goneL lo u)) (atOwnOb lo i).id)).map (atOwnOb lo):=by
  unfold stayL keptL;rw[List.take_length];generalize goneL lo u=G;have e1:lo.filter (fun o=> !hasB G.length (nthI G) o.id)=((List.range lo.length).map (atOwnOb lo)).filter (fun o=> !hasB G.length (nthI G) o.id):=by rw[lo_map]
  rw[e1,List.filter_map];rfl
 refine⟨rfl,fun j hj=>thr_refl _,by show(stayL _ lo lo.length).length=_;rw[es];simp[KerV.cut,kOf],fun j hj=>?_⟩;have e2:(kOf none 0 none 0 lt (stayL (goneL lo u) lo lo.length)).O j=((kOf none 0 none 0 lt lo).cut (fun i=> !hasB (goneL lo u).length (nthI (goneL lo u)) (atOwnOb lo i).id)).O j:=by
  have hj':j<(keptL lo.length (fun i=> !hasB (goneL lo u).length (nthI (goneL lo u)) (atOwnOb lo i).id)).length:=hj;show atOwnOb (stayL (goneL lo u) lo lo.length) j=atOwnOb lo ((keptL lo.length (fun i=> !hasB (goneL lo u).length (nthI (goneL lo u)) (atOwnOb lo i).id)).getD j 0);rw[es];rw[atOwnOb_get (by simpa using hj')];simp[hj']
 rw[e2];exact ObjV.same.refl _
theorem lab_same{b:Int}{c d:CatL}(h:c.same d)(hl:labOk b c.n c.f c.g=true):labOk b d.n d.f d.g=true:=by
 obtain⟨h1,h2,h3⟩:=h;rw[h1,h2,h3];exact hl
theorem thr_rise{n:Nat}{T:Nat→ThrV}(h:thrsOk n T=true):Rises (fun i=>(T i).id) n:=rises_of fun i i0 hi=>by
 have:=(thrsOk_out h).2.2 i hi;unfold thrAt at this;simp only[Bool.and_eq_true,Bool.or_eq_true,decide_eq_true_eq,beq_iff_eq]at this;rcases this.2 with e|e
 ·omega
 ·exact e
theorem newCat_in{X:ThrV}(h:ThrF X):1001≤newCat X∧newCat X≤9999:=by
 have:=h.id;have:=h.made;unfold newCat;omega
theorem set_id{lt:List ThrV}{t:Nat}(ht:t<lt.length):lt.set t lt[t]=lt:=set_same ht
theorem put_own{X:ThrV}(h:ThrF X)(hn:¬X.own.n=10){L:List Int}(e:L=putL ((List.range X.own.n).map X.own.h) (newCat X)):ownOk L.length (nthI L)=true:=by
 obtain⟨h1,h2,h3⟩:=ownOk_list.1 h.own;subst e;refine ownOk_of ?_ (putL_rise h2) (fun x hx=>?_)
 ·have:=putL_len ((List.range X.own.n).map X.own.h) (newCat X);simp at this;omega
 ·rcases putL_mem hx with hx|hx
  ·exact h3 x hx
  ·have:=newCat_in h;omega
theorem leftL_in{h:Nat→Int}{c:Int}{n:Nat}{x:Int}(hx:x∈leftL h c n):x∈(List.range n).map h:=(List.mem_filter.1 hx).1
theorem left_own{n:Nat}{h:Nat→Int}{c:Int}(ho:ownOk n h=true):ownOk (leftL h c n).length (nthI (leftL h c n))=true:=by
 obtain⟨h1,h2,h3⟩:=ownOk_list.1 ho;refine ownOk_of ?_ (h2.filter _) (fun x hx=>h3 x (leftL_in hx));have:=leftL_len h c n;omega
theorem putTo_in{L:List Int}{h:Nat→Int}:∀{q:Nat}{x:Int},x∈putTo L h q→x∈L∨∃i,i<q∧x=h i
 |0,x,hx=> .inl hx
 |q+1,x,hx=>by
  rcases putL_mem hx with hx|hx
  ·rcases putTo_in hx with hx|⟨i,hi,e⟩
   ·exact .inl hx
   ·exact .inr ⟨i,by omega,e⟩
  ·exact .inr ⟨q,by omega,hx⟩
theorem putTo_rise{L:List Int}{h:Nat→Int}(hL:L.Pairwise (· <·)):∀q,(putTo L h q).Pairwise (· <·)
 |0=>hL
 |q+1=>putL_rise (putTo_rise hL q)
theorem plain_empty:plainB ⟨#[]⟩ 40=true:=by decide
theorem newObj_ok{X:ThrV}{s:StepV}(sf:StepF s){d1 d2:CatL}{ow:IntL}(hk:s.kind=2∨s.kind=3∨s.kind=4∨s.kind=5)(e1:s.c1.same d1)(e2:if s.kind=5 then s.c2.same d2 else d2=zeroC)(e3:if 0<s.cat then ow.n=1∧ow.h 0=s.cat else ow=zeroI):ObjF (newObj X s d1 d2 ow):=by
 have hw:ownOk ow.n ow.h=true:=by
  by_cases h:0<s.cat
  ·rw[if_pos h]at e3;have hc:=sf.cat;have e:(s.cat==0)=false:=(by simp only[beq_eq_false_iff_ne,ne_eq];omega);unfold catB at hc;rw[e]at hc;simp only[Bool.false_eq_true,if_false,Bool.and_eq_true,inB_iff]at hc;rw[e3.1];simp[ownOk,ownAt,e3.2,inB];omega
  ·rw[if_neg h]at e3;rw[e3];rfl
 have h2:labOk (newObj X s d1 d2 ow).b2 d2.n d2.f d2.g=true:=by
  unfold newObj;by_cases h:s.kind=5
  ·rw[if_pos h]at e2;simp only[if_pos h];exact lab_same e2 sf.l2
  ·rw[if_neg h]at e2;simp only[if_neg h];rw[e2];rfl
 refine⟨lab_same e1 sf.l1,h2,hw,plain_empty,rfl,?_⟩;have ce:=cat_of sf;have noCat:s.kind≠5→ow=zeroI:=fun h=>by
  have:=ce.1 (by omega);rw[if_neg (by omega)]at e3;exact e3
 unfold newObj kindB;rcases hk with h|h|h|h
 ·have e4:=noCat (by omega);rw[if_neg (by omega)]at e2;subst e2;subst e4;simp[h,zeroB,zeroC,zeroI]
 ·have e4:=noCat (by omega);rw[if_neg (by omega)]at e2;subst e2;subst e4;simp[h,zeroB,zeroC,zeroI]
 ·have e4:=noCat (by omega);rw[if_neg (by omega)]at e2;subst e2;subst e4;simp[h,zeroB,zeroC,zeroI]
 ·simp[h]
theorem okL_make{lt:List ThrV}{lo:List ObjV}(ok:okL lt lo=true){t:Nat}(ht:t<lt.length){s:StepV}(so:s.ok=true)(hk:s.kind=2∨s.kind=3∨s.kind=4∨s.kind=5){c:Int}{tx:ByteArray}{lt':List ThrV}{lo':List ObjV}(p:MakeP lt[t] s lt lo t c tx lt' lo'):okL lt' lo'=true:=by
 rcases p with⟨_,_,_,rfl,rfl⟩|⟨_,_,_,_,rfl,rfl⟩|⟨_,mb,m30,_,rfl,d1,d2,ow,e1,e2,e3,rfl⟩
 ·exact ok
 ·exact ok
 ·have X:=okL_thr ok _ (List.getElem_mem ht);have m1:=X.made;have i1:=X.id;have ok1:=okL_setT ok ht (x:=⟨lt[t].id,lt[t].b1,lt[t].c1,lt[t].b2,lt[t].c2,lt[t].own,lt[t].made+1⟩) ⟨X.id,X.l1,X.l2,X.own,by dsimp only;omega⟩ rfl (by dsimp only;omega);unfold madeB at mb;cases hu:atL lo s.id with
  |none=>rw[hu]at mb;cases mb
  |some u=>
   rw[hu]at mb;simp only[Bool.and_eq_true,decide_eq_true_eq]at mb;have kk:=kerOk_iff.1 ok;have k1:=kerOk_iff.1 ok1;have nc:newCat lt[t]=1000*lt[t].id+lt[t].made+1:=rfl;refine okL_ins ok1 (newObj_ok (stepF so) hk e1 e2 e3) ?_ hu mb.1.1.1.1 (fun j hj=>?_) (by show 1<newCat lt[t];omega)
   ·have et:atOwnT (lt.set t (⟨lt[t].id,lt[t].b1,lt[t].c1,lt[t].b2,lt[t].c2,lt[t].own,lt[t].made+1⟩:ThrV)) t=⟨lt[t].id,lt[t].b1,lt[t].c1,lt[t].b2,lt[t].c2,lt[t].own,lt[t].made+1⟩:=by
     have:=set_at (l:=lt) (t:=t) (j:=t) (x:=(⟨lt[t].id,lt[t].b1,lt[t].c1,lt[t].b2,lt[t].c2,lt[t].own,lt[t].made+1⟩:ThrV)) (z:=ThrV.z) ht;rw[if_pos rfl]at this;exact this
    refine numAt_of k1.thr (t:=t) (by simpa[kOf]using ht) ?_ ?_ ?_
    ·show(atOwnT _ t).id=newCat lt[t]/1000;rw[et];show lt[t].id=newCat lt[t]/1000;omega
    ·show 1≤newCat lt[t]%1000;omega
    ·show newCat lt[t]%1000≤(atOwnT _ t).made;rw[et];show newCat lt[t]%1000≤lt[t].made+1;omega
   ·intro e;have e':(atOwnOb lo j).id=newCat lt[t]:=e;by_cases h0:j=0
    ·subst h0;have:=(okL_root ok).2.1;omega
    ·obtain⟨t',h1,h2,h3,h4⟩:=numAt_parts kk.thr (kk.num j (by omega) hj);have g1:(atOwnT lt t').id=(atOwnOb lo j).id/1000:=h2;have g2:(atOwnOb lo j).id%1000≤(atOwnT lt t').made:=h4;have g3:(atOwnT lt t).id=lt[t].id:=(by rw[atOwnT_get ht]);have e3:t'=t:=(thr_rise kk.thr).inj h1 ht (by show(atOwnT lt t').id=(atOwnT lt t).id;rw[g1,g3,e'];omega);subst e3;rw[atOwnT_get ht,e']at g2;omega
theorem objKeep{o:ObjV}(f:ObjF o){d:ByteArray}(h1:o.kind=1)(hd:plainB d 40=true):ObjF ⟨o.id,o.kind,o.up,o.b1,o.c1,d,o.items,o.own,o.b2,o.c2⟩:=by
 refine⟨f.l1,f.l2,f.own,hd,f.items,?_⟩;have:=f.kind;unfold kindB at this ⊢;simp only[h1,if_true]at this ⊢;exact this
theorem objItems{o:ObjV}(f:ObjF o){d:StrL}(h1:o.kind=2)(hd:itemsB d.n d.f=true):ObjF ⟨o.id,o.kind,o.up,o.b1,o.c1,o.data,d,o.own,o.b2,o.c2⟩:=by
 refine⟨f.l1,f.l2,f.own,f.data,hd,?_⟩;have:=f.kind;unfold kindB at this ⊢;simp only[h1]at this ⊢;exact this
theorem items_iff{n:Nat}{f:Nat→ByteArray}:itemsB n f=true↔n≤8∧∀i,i<n→plainB (f i) 40=true:=by
 unfold itemsB;simp only[Bool.and_eq_true,decide_eq_true_eq,List.all_eq_true,List.mem_range]
theorem okL_act{lt:List ThrV}{lo:List ObjV}(ok:okL lt lo=true){t:Nat}(ht:t<lt.length){s:StepV}(so:s.ok=true){c:Int}{tx:ByteArray}{lt':List ThrV}{lo':List ObjV}(p:ActP lt[t] s lt lo t c tx lt' lo'):okL lt' lo'=true:=by
 have X:=okL_thr ok _ (List.getElem_mem ht);have sf:=stepF so;cases p with
 |k1 h x e1 e2 p=>
  subst e1 e2;rcases p with⟨_,_,rfl,_⟩|⟨_,hn,_,a,cc,rfl⟩
  ·rw[set_id ht];exact ok
  ·have:=X.made;exact okL_setT ok ht ⟨X.id,X.l1,X.l2,put_own X (fun e=>hn (.inr e)) rfl,by dsimp only;omega⟩ rfl (by dsimp only;omega)
 |k12 h x e1 e2 e3 p=>
  subst e1 e2;rcases p with⟨_,_,rfl⟩|⟨_,_,d,sd,rfl⟩
  ·rw[set_id ht];exact ok
  ·exact okL_setT ok ht ⟨X.id,lab_same sd sf.l1,X.l2,X.own,X.made⟩ rfl (Int.le_refl _)
 |k14 h x e1 e2 e3 p=>
  subst e1 e2;rcases p with⟨_,_,rfl⟩|⟨_,_,a,cc,rfl⟩
  ·rw[set_id ht];exact ok
  ·exact okL_setT ok ht ⟨X.id,X.l1,X.l2,left_own X.own,X.made⟩ rfl (Int.le_refl _)
 |make h p=>exact okL_make ok ht so h p
 |drop h e1 e3 p=>
  subst e1;rcases p with⟨_,_,rfl⟩|⟨_,_,u,hu,u0,rfl⟩
  ·exact ok
  ·exact okL_cut ok hu u0
 |k6 h p=>
  rcases p with⟨_,_,_,rfl,rfl⟩|⟨u,hu,⟨_,_,_,rfl,rfl⟩|⟨_,_,_,rfl,rfl⟩⟩
  ·exact ok
  ·exact ok
  ·obtain⟨_,ul,i1,k1,_⟩:=useAt_some hu;rw[atOwnOb_get ul];exact okL_setO ok ul (objKeep (okL_obj ok _ (List.getElem_mem ul)) k1 sf.data) rfl rfl rfl
 |k7 h p=>
  rcases p with⟨_,_,_,rfl,rfl⟩|⟨u,hu,_,_,rfl,rfl⟩
  ·exact ok
  ·exact ok
 |k8 h p=>
  rcases p with⟨_,_,_,rfl,rfl⟩|⟨u,hu,⟨_,_,_,rfl,rfl⟩|⟨v,hv,⟨_,_,_,rfl,rfl⟩|⟨kv,_,_,_,rfl,rfl⟩⟩⟩
  ·exact ok
  ·exact ok
  ·exact ok
  ·obtain⟨_,ul,_⟩:=useAt_some hu;obtain⟨vl,_⟩:=atL_some hv;rw[atOwnOb_get vl]at kv;rw[atOwnOb_get vl,atOwnOb_get ul];exact okL_setO ok vl (objKeep (okL_obj ok _ (List.getElem_mem vl)) kv (okL_obj ok _ (List.getElem_mem ul)).data) rfl rfl rfl
 |k9 h p=>
  rcases p with⟨_,_,_,rfl,rfl⟩|⟨u,hu,⟨_,_,_,rfl,rfl⟩|⟨_,_,_,_,rfl,rfl⟩|⟨_,n8,_,_,rfl,a,c',rfl⟩⟩
  ·exact ok
  ·exact ok
  ·exact ok
  ·obtain⟨_,ul,i1,k1,_⟩:=useAt_some hu;rw[atOwnOb_get ul]at n8 ⊢;have f:=okL_obj ok _ (List.getElem_mem ul);have it:=items_iff.1 f.items;refine okL_setO ok ul (objItems f k1 (items_iff.2 ⟨by dsimp only;omega,fun i hi=>?_⟩)) rfl rfl rfl;dsimp only;unfold moreF;split
   ·rename_i h1;exact it.2 i h1
   ·exact sf.data
 |k10 h p=>
  rcases p with⟨_,_,_,rfl,rfl⟩|⟨u,hu,⟨_,_,_,rfl,rfl⟩|⟨_,_,_,_,rfl,rfl⟩|⟨_,n0,_,_,rfl,a,c',rfl⟩⟩
  ·exact ok
  ·exact ok
  ·exact ok
  ·obtain⟨_,ul,i1,k1,_⟩:=useAt_some hu;rw[atOwnOb_get ul]at n0 ⊢;have f:=okL_obj ok _ (List.getElem_mem ul);have it:=items_iff.1 f.items;refine okL_setO ok ul (objItems f k1 (items_iff.2 ⟨by dsimp only;omega,fun i hi=>?_⟩)) rfl rfl rfl;dsimp only at hi ⊢;exact it.2 (i+1) (by omega)
 |k13 h p=>
  rcases p with⟨_,_,_,rfl,rfl⟩|⟨u,hu,⟨_,_,_,rfl,rfl⟩|⟨_,_,_,_,rfl,rfl⟩|⟨_,nb,_,_,a,c',rfl,rfl⟩⟩
  ·exact ok
  ·exact ok
  ·exact ok
  ·obtain⟨_,ul,i1,k1,_⟩:=useAt_some hu;rw[atOwnOb_get ul]at nb ⊢;have f:=okL_obj ok _ (List.getElem_mem ul);obtain⟨_,x2,x3⟩:=ownOk_list.1 X.own;obtain⟨_,_,f3⟩:=ownOk_list.1 f.own;refine okL_setT ok ht ⟨X.id,X.l1,X.l2,ownOk_of (by omega) (putTo_rise x2 _) (fun x hx=>?_),X.made⟩ rfl (Int.le_refl _);rcases putTo_in hx with hx|⟨i,hi,rfl⟩
   ·exact x3 x hx
   ·exact f3 _ (List.mem_map.2 ⟨i,List.mem_range.2 hi,rfl⟩)
 |k15 h p=>
  rcases p with⟨_,_,_,rfl,rfl⟩|⟨u,hu,_,_,rfl,rfl⟩
  ·exact ok
  ·exact ok
theorem okL_done{lt:List ThrV}{lo:List ObjV}(ok:okL lt lo=true){s:StepV}{c:Int}{tx:ByteArray}{lt':List ThrV}{lo':List ObjV}(p:DoneP lt lo s c tx lt' lo'):okL lt' lo'=true:=by
 cases p with
 |form h hc ht e1 e2=>subst e1 e2;exact ok
 |thread h hn hc ht e1 e2=>subst e1 e2;exact ok
 |act h t ht hn p=>exact okL_act ok ht h p
open Go.BigFrame Go.Shelf
def newT(i:Nat):ThrV:=⟨i,1,zeroC,2,zeroC,zeroI,0⟩
def newTs(j:Nat):List ThrV:=(List.range j).map (fun i=>newT (i+1))
def newO:ObjV:=⟨1,3,0,1,zeroC,⟨#[]⟩,⟨none,0,0,fun _=>⟨#[]⟩⟩,zeroI,0,zeroC⟩
theorem newTs_len(j:Nat):(newTs j).length=j:=by simp[newTs]
theorem newTs_succ(j:Nat):newTs (j+1)=newTs j++[newT (j+1)]:=by simp[newTs,List.range_succ]
theorem newO_own(w:World)(B:Nat)(hb:B≤w.heap.size):OwnOb (w.alloc (.cells #[.int .i64 1,.int .i64 3,.int .i64 0,.int .i64 1,.slice none 0 0,.string (ByteArray.mk #[]),.slice none 0 0,.slice none 0 0,.int .i64 0,.slice none 0 0] 42)) B (.slice (some ⟨w.heap.size,0,none⟩) 1 1) [newO]:=by
 refine⟨rfl,.inr ⟨w.heap.size,1,#[.int .i64 1,.int .i64 3,.int .i64 0,.int .i64 1,.slice none 0 0,.string (ByteArray.mk #[]),.slice none 0 0,.slice none 0 0,.int .i64 0,.slice none 0 0],rfl,hb,heap_alloc_new w _,Nat.le_refl _,by unfold maxLen;omega,rfl,?_⟩⟩;rfl
theorem newTs_at{m i:Nat}(hi:i<m):atOwnT (newTs m) i=newT (i+1):=by
 rw[atOwnT_get (by rw[newTs_len];exact hi)];simp[newTs]
theorem newO_ok:ObjF newO:=⟨rfl,rfl,rfl,plain_empty,rfl,by simp[kindB,newO,zeroB,zeroC,zeroI]⟩
theorem okL_new{m:Nat}(h1:1≤m)(h9:m≤9):okL (newTs m) [newO]=true:=by
 refine kerOk_iff.2 ⟨?_,Nat.le_refl _,rfl,fun i hi=>?_,fun i j hij hj=>?_,fun i i0 hi=>?_,fun i i0 hi=>?_,fun i hi=>?_⟩
 ·show thrsOk (newTs m).length (atOwnT (newTs m))=true;rw[newTs_len];refine thrsOk_of h1 h9 (fun i hi=>?_) (fun i j hij hj=>?_)
  ·rw[newTs_at hi];exact thrF_iff.2 ⟨by simp[newT];omega,rfl,rfl,rfl,by simp[newT]⟩
  ·show(atOwnT (newTs m) i).id<(atOwnT (newTs m) j).id;rw[newTs_at (by omega),newTs_at hj];simp[newT];omega
 ·have hi':i<1:=hi;obtain rfl:i=0:=by omega
  exact objF_iff.2 newO_ok
 ·have hj':j<1:=hj;omega
 ·have hi':i<1:=hi;omega
 ·have hi':i<1:=hi;omega
 ·have hi':i<1:=hi;obtain rfl:i=0:=by omega
  exact Up2.root
theorem new_results(tmps:Array Value)(W:World)(P:Nat)(x y:Value)(h:Blk W P (.cells #[x,y] 27))(h2:tmps[2]? =some (.pointer (some ⟨P,0,none⟩)))(h3:tmps[3]? =some (.bool true)):
 (results Tryz.f88 tmps).run Tryz.prog W= .ok (.tuple #[.agg #[x,y],.bool true]) W:=by
 obtain⟨z0,z1⟩:=h.two;simp[results,Tryz.results88,go_sem,h2,h3,z0,z1]
theorem kernelNew_any(m:Nat)(w:World)(h1:1≤m)(h9:m≤9):
 Calls Tryz.prog 88 #[.int .i64 m] w fun e w'=>∃(ta oa:Option Addr) (ca co:Nat),e= .returned (.tuple #[.agg #[.slice ta (newTs m).length ca,.slice oa 1 co],.bool true])∧KSt w' w.heap.size (.slice ta (newTs m).length ca) (.slice oa [newO].length co) (newTs m) [newO]∧Below w.heap.size w w':=by
 have I1:inB (m:Int) 1 9=true:=by simp[inB];omega
 have C1:=hid (l1In_any (m:Int) 1 9 (w.alloc (.cells #[.slice none 0 0,.slice none 0 0] 27)));rw[I1]at C1;have R0:Hid (Blk (((w.alloc (.cells #[.slice none 0 0,.slice none 0 0] 27)).alloc (.cells #[.int .i64 1,.int .i64 3,.int .i64 0,.int .i64 1,.slice none 0 0,.string (ByteArray.mk #[]),.slice none 0 0,.slice none 0 0,.int .i64 0,.slice none 0 0] 42)).alloc (.cells #[.slice none 0 0,.slice (some ⟨w.heap.size+1,0,none⟩) 1 1] 27)) w.heap.size (.cells #[.slice none 0 0,.slice none 0 0] 27)):=hid (((Blk.new w _).alloc _).alloc _);have K0:Hid (Blk (((w.alloc (.cells #[.slice none 0 0,.slice none 0 0] 27)).alloc (.cells #[.int .i64 1,.int .i64 3,.int .i64 0,.int .i64 1,.slice none 0 0,.string (ByteArray.mk #[]),.slice none 0 0,.slice none 0 0,.int .i64 0,.slice none 0 0] 42)).alloc (.cells #[.slice none 0 0,.slice (some ⟨w.heap.size+1,0,none⟩) 1 1] 27)) (w.heap.size+1+1) (.cells #[.slice none 0 0,.slice (some ⟨w.heap.size+1,0,none⟩) 1 1] 27)):=hid (by have:=Blk.new ((w.alloc (.cells #[.slice none 0 0,.slice none 0 0] 27)).alloc (.cells #[.int .i64 1,.int .i64 3,.int .i64 0,.int .i64 1,.slice none 0 0,.string (ByteArray.mk #[]),.slice none 0 0,.slice none 0 0,.int .i64 0,.slice none 0 0] 42)) (.cells #[.slice none 0 0,.slice (some ⟨w.heap.size+1,0,none⟩) 1 1] 27);simpa using this);have O0:Hid (OwnOb (((w.alloc (.cells #[.slice none 0 0,.slice none 0 0] 27)).alloc (.cells #[.int .i64 1,.int .i64 3,.int .i64 0,.int .i64 1,.slice none 0 0,.string (ByteArray.mk #[]),.slice none 0 0,.slice none 0 0,.int .i64 0,.slice none 0 0] 42)).alloc (.cells #[.slice none 0 0,.slice (some ⟨w.heap.size+1,0,none⟩) 1 1] 27)) w.heap.size (.slice (some ⟨w.heap.size+1,0,none⟩) 1 1) [newO]):=hid (by
  have h:=newO_own (w.alloc (.cells #[.slice none 0 0,.slice none 0 0] 27)) w.heap.size (by simp);have e:(w.alloc (.cells #[.slice none 0 0,.slice none 0 0] 27)).heap.size=w.heap.size+1:=by simp
  rw[e]at h;exact World.ownsRow.alloc h _)
 have B0:Hid (Below w.heap.size w (((w.alloc (.cells #[.slice none 0 0,.slice none 0 0] 27)).alloc (.cells #[.int .i64 1,.int .i64 3,.int .i64 0,.int .i64 1,.slice none 0 0,.string (ByteArray.mk #[]),.slice none 0 0,.slice none 0 0,.int .i64 0,.slice none 0 0] 42)).alloc (.cells #[.slice none 0 0,.slice (some ⟨w.heap.size+1,0,none⟩) 1 1] 27))):=hid ((((Below.refl _ w).alloc (Nat.le_refl _) _).alloc (by simp) _).alloc (by simp;omega) _);have z0:w.heap.size+3≤(((w.alloc (.cells #[.slice none 0 0,.slice none 0 0] 27)).alloc (.cells #[.int .i64 1,.int .i64 3,.int .i64 0,.int .i64 1,.slice none 0 0,.string (ByteArray.mk #[]),.slice none 0 0,.slice none 0 0,.int .i64 0,.slice none 0 0] 42)).alloc (.cells #[.slice none 0 0,.slice (some ⟨w.heap.size+1,0,none⟩) 1 1] 27)).heap.size:=by simp
 go_enter Tryz.func88,Tryz.ntmps88
 go_wp2_with fail
 refine C1.out.mono ?_;rintro e w1 ⟨rfl,rfl⟩;go_wp2;generalize (((w.alloc (.cells #[.slice none 0 0,.slice none 0 0] 27)).alloc (.cells #[.int .i64 1,.int .i64 3,.int .i64 0,.int .i64 1,.slice none 0 0,.string (ByteArray.mk #[]),.slice none 0 0,.slice none 0 0,.int .i64 0,.slice none 0 0] 42)).alloc (.cells #[.slice none 0 0,.slice (some ⟨w.heap.size+1,0,none⟩) 1 1] 27))=V at *;go_loopw [5] (fun i wr=>∃(j:Nat) (ta:Option Addr) (ca:Nat),j≤m∧i= .int .i64 ((j:Int)+1)∧Blk wr w.heap.size (.cells #[.slice none 0 0,.slice none 0 0] 27)∧Blk wr (w.heap.size+1+1) (.cells #[.slice ta j ca,.slice (some ⟨w.heap.size+1,0,none⟩) 1 1] 27)∧OwnOb wr w.heap.size (.slice (some ⟨w.heap.size+1,0,none⟩) 1 1) [newO]∧OwnT wr (w.heap.size+3) (.slice ta j ca) (newTs j)∧Below w.heap.size w wr∧w.heap.size+3≤wr.heap.size) (fun i _=>m+1-(intOf i).toNat)
 case atStart=>exact⟨0,none,0,Nat.zero_le _,rfl,R0.out,K0.out,O0.out,OwnT.nil _ _,B0.out,z0⟩
 case round=>
  obtain⟨j,ta,ca,hj,rfl,r,k,o,ot,be,zz⟩:=hrel;clear R0 K0 O0 B0 z0 C1;have RR:=hid r;have KK:=hid k;have OO:=hid o;have TT:=hid ot;have BB:=hid be;clear r k o ot be;obtain⟨k0,k1⟩:=KK.out.two;have kf:=KK.out.warm;have wj:IntKind.i64.wrap ((j:Int)+1+1)=(j:Int)+1+1:=by rw[IntKind.wrap_i64];omega
  by_cases hlt:j<m
  ·have i1:(j:Int)+1≤(m:Int):=(by omega);have HLT:=hid hlt;have QL:Hid (LiesC (wr.alloc (.cells #[.int .i64 ((j:Int)+1),.int .i64 1,.slice none 0 0,.int .i64 2,.slice none 0 0,.slice none 0 0,.int .i64 0] 75)) (some ⟨wr.heap.size,0,none⟩) 1 (cells7 [newT (j+1)])):=hid (OwnT.one wr (newT (j+1)));have QO:=hid (World.ownsRow.alloc TT.out (.cells #[.int .i64 ((j:Int)+1),.int .i64 1,.slice none 0 0,.int .i64 2,.slice none 0 0,.slice none 0 0,.int .i64 0] 75));have lj:=newTs_len j;have KA:=hid (KK.out.alloc (.cells #[.int .i64 ((j:Int)+1),.int .i64 1,.slice none 0 0,.int .i64 2,.slice none 0 0,.slice none 0 0,.int .i64 0] 75));have RA:=hid (RR.out.alloc (.cells #[.int .i64 ((j:Int)+1),.int .i64 1,.slice none 0 0,.int .i64 2,.slice none 0 0,.slice none 0 0,.int .i64 0] 75));have OA:=hid (World.ownsRow.alloc OO.out (.cells #[.int .i64 ((j:Int)+1),.int .i64 1,.slice none 0 0,.int .i64 2,.slice none 0 0,.slice none 0 0,.int .i64 0] 75));have BA:=hid (BB.out.alloc BB.out.size (.cells #[.int .i64 ((j:Int)+1),.int .i64 1,.slice none 0 0,.int .i64 2,.slice none 0 0,.slice none 0 0,.int .i64 0] 75));have za:w.heap.size+3≤(wr.alloc (.cells #[.int .i64 ((j:Int)+1),.int .i64 1,.slice none 0 0,.int .i64 2,.slice none 0 0,.slice none 0 0,.int .i64 0] 75)).heap.size:=(by simp;omega);clear lj;go_wp2_with(at_builtin;refine wpList_appendOwnT _ rfl _ _ rfl (w.heap.size+3) (.slice ta j ca) (newTs j) rfl QO.out _ _ (newT (j+1)) rfl QL.out (by rw[newTs_len];omega) za ?_;intro a7 c7 w7 o7 g7;rw[newTs_len]at o7 ⊢;rw[←newTs_succ]at o7;have O7:=hid o7;have G7:=hid g7;clear o7 g7;have nb:∀p,p<w.heap.size+3→some p≠Value.ownBlock (.slice ta j ca):=(fun p hp e=>by have:=(World.ownsRow.lt QO.out p e.symm).1;omega);have K7:=hid (KA.out.grown G7.out (nb _ (by omega)));have R7:=hid (RA.out.grown G7.out (nb _ (by omega)));have OW7:=hid (World.ownsRow.kept OA.out G7.out (Or.inr (nb (w.heap.size+1) (by omega))));have B7:=hid (BA.out.trans (below_grown G7.out (by have:=BB.out.size;omega) (fun p e=>by have:=(World.ownsRow.lt QO.out p e).1;omega)));have z7:w.heap.size+3≤w7.heap.size:=Nat.le_trans za G7.out.size;have k7f:=K7.out.warm;obtain⟨k70,k71⟩:=K7.out.two;clear nb)
   go_roundw;case rel=>
    refine⟨j+1,a7,c7,by have:=HLT.out;omega,by go_num,R7.out.other (by omega) _,K7.out.setAt (i:=0) _,OwnOb.set OW7.out K7.out (by decide) _,OwnT.set O7.out K7.out (by decide) _,B7.out.setCell (by dsimp only;omega) _,by rw[nblk_setCell];exact z7⟩
   case measure=>have:=HLT.out;simp[intOf];omega
  ·obtain rfl:j=m:=by omega
   have i1:¬(j:Int)+1≤(j:Int):=(by omega);obtain⟨r0,r1⟩:=RR.out.two;have rf:=RR.out.warm;have lj:=newTs_len j;have RZ:=hid ((RR.out.setAt (i:=0) (.slice ta j ca)).setAt (i:=1) (.slice (some ⟨w.heap.size+1,0,none⟩) 1 1));go_wp2;refine bodyPost_ret (new_results _ _ w.heap.size _ _ RZ.out rfl rfl) rfl ⟨ta,some ⟨w.heap.size+1,0,none⟩,ca,1,rfl,?_,?_⟩
   ·have k1:KSt wr w.heap.size (.slice ta j ca) (.slice (some ⟨w.heap.size+1,0,none⟩) 1 1) (newTs j) [newO]:=⟨OwnT.base TT.out (by omega),OO.out,fun x hx=>by
     obtain⟨i,_,rfl⟩:=List.mem_map.1 hx;exact⟨zeroC_new,zeroC_new,zeroI_new⟩,fun x hx=>by
     obtain rfl:=List.mem_singleton.1 hx;exact⟨zeroC_new,zeroS_new,zeroI_new,zeroC_new⟩,fun x hx=>by
     obtain⟨i,_,rfl⟩:=List.mem_map.1 hx;exact⟨Nat.le_refl _,Nat.zero_le _⟩,fun x hx=>by
     obtain rfl:=List.mem_singleton.1 hx;exact⟨Nat.le_refl _,Nat.zero_le _⟩⟩
    exact(k1.set RR.out (.inl rfl) _).set (RR.out.setAt (i:=0) _) (.inl rfl) _
   ·exact(BB.out.setCell (Nat.le_refl _) _).setCell (Nat.le_refl _) _
def InI(x:Int):Prop:= -9223372036854775808≤x∧x<9223372036854775808
theorem InI.w64(x:Int):InI (wrap64 x):=by unfold wrap64 InI;omega
theorem InI.of{x:Int}(h1: -9223372036854775808≤x)(h2:x<9223372036854775808):InI x:=⟨h1,h2⟩
theorem near_big(w0:World)(rb:Nat)(a:Option Addr)(n cap:Nat)(lo hi:Nat)(w:World)(hl:lo≤hi)(hh:hi≤1099511627776)(h:Rd w0 w rb a n cap):
 Calls Tryz.prog 105 #[.pointer (some ⟨rb,0,none⟩),.int .i64 lo,.int .i64 hi] w fun e w'=>∃x:Int,e= .returned (.int .i64 x)∧InI x∧Rd w0 w' rb a n cap∧w.grownBy w' (some rb):=by
 have HR:Hid (Rd w0 w rb a n cap):=h;clear h;have w1:IntKind.i64.wrap ((hi:Int)-lo)=(hi:Int)-lo:=by rw[IntKind.wrap_i64];omega
 have w2:IntKind.i64.wrap ((hi:Int)-lo+1)=(hi:Int)-lo+1:=by rw[IntKind.wrap_i64];omega
 have nl:¬(hi:Int)<(lo:Int):=by omega
 go_enter Tryz.func105,Tryz.ntmps105
 go_wp2_with fail
 refine(rdBelow_any w0 rb a n cap 8 _ (by omega) HR.out).mono ?_;rintro e u1 ⟨x,rfl,_,x8,R1,g1⟩;have HR1:Hid (Rd w0 u1 rb a n cap):=R1;clear R1;by_cases t0:x=0
 ·subst t0;go_wp2;go_ret;exact⟨_,rfl,.of (by omega) (by omega),HR1.out,g1⟩
 ·by_cases t1:x=1
  ·subst t1;go_wp2;go_ret;exact⟨_,rfl,.of (by omega) (by omega),HR1.out,g1⟩
  ·have t0':((x:Int)==0)=false:=(by simpa using t0);have t1':((x:Int)==1)=false:=(by simp;omega);go_wp2_with fail
   refine(word_any w0 rb a n cap _ HR1.out).mono ?_;rintro e u2 ⟨y,rfl,R2,g2⟩;have HR2:Hid (Rd w0 u2 rb a n cap):=R2;clear R2;have m1:IntKind.u64.wrap ((hi:Int)-lo+1)=(hi:Int)-lo+1:=(by rw[IntKind.wrap_u64];omega);have m0:¬((hi:Int)-lo+1)=0:=(by omega);go_wp2;go_ret;exact⟨_,rfl,.w64 _,HR2.out,grown_pair g1 g2⟩
theorem off_big(w0:World)(rb:Nat)(a:Option Addr)(n cap:Nat)(lo hi:Nat)(w:World)(hl:lo≤hi)(hh:hi≤1099511627776)(h:Rd w0 w rb a n cap):
 Calls Tryz.prog 71 #[.pointer (some ⟨rb,0,none⟩),.int .i64 lo,.int .i64 hi] w fun e w'=>∃x:Int,e= .returned (.int .i64 x)∧InI x∧Rd w0 w' rb a n cap∧w.grownBy w' (some rb):=by
 have HR:Hid (Rd w0 w rb a n cap):=h;clear h;have w1:IntKind.i64.wrap ((lo:Int)-1)=(lo:Int)-1:=by rw[IntKind.wrap_i64];omega
 have w2:IntKind.i64.wrap ((hi:Int)+1)=(hi:Int)+1:=by rw[IntKind.wrap_i64];omega
 go_enter Tryz.func71,Tryz.ntmps71
 go_wp2_with fail
 refine(once_any w0 rb a n cap 24 _ (by omega) HR.out).mono ?_;rintro e u1 ⟨t,rfl,R1,g1⟩;have HR1:Hid (Rd w0 u1 rb a n cap):=R1;clear R1;cases t with
 |true=>
  go_wp2_with fail
  have lr:=HR1.out.lt;refine(rdBelow_any w0 rb a n cap 4 _ (by omega) (HR1.out.below ((Below.refl _ _).alloc (Nat.le_refl _) _))).mono ?_;rintro e u2 ⟨x,rfl,_,x4,R2,g2⟩;have x4':=x4 (by omega);have HR2:Hid (Rd w0 u2 rb a n cap):=R2;have gN:w.grownBy u2 (some rb):=grown_pair (grown_trans g1 (World.grownBy_alloc u1 _ none) (fun j e=>by cases e)) g2;have Bk:Blk u2 u1.heap.size (.cells #[.int .i64 ((lo:Int)-1),.int .i64 ((hi:Int)+1),.int .i64 (-9223372036854775808),.int .i64 9223372036854775807] 2):=(Blk.new u1 _).grown g2 (by simp;omega);unfold Blk at Bk;have c0:u2.cell? ⟨u1.heap.size,0,none⟩=some (.int .i64 ((lo:Int)-1)):=by simp[World.cell?,Bk]
  have c1:u2.cell? ⟨u1.heap.size,1,none⟩=some (.int .i64 ((hi:Int)+1)):=by simp[World.cell?,Bk]
  have c2:u2.cell? ⟨u1.heap.size,2,none⟩=some (.int .i64 (-9223372036854775808)):=by simp[World.cell?,Bk]
  have c3:u2.cell? ⟨u1.heap.size,3,none⟩=some (.int .i64 9223372036854775807):=by simp[World.cell?,Bk]
  clear R2 x4 Bk g2;have hx:x=0∨x=1∨x=2∨x=3:=by omega
  rcases hx with rfl|rfl|rfl|rfl;all_goals
   clear x4';go_wp2;go_ret;exact⟨_,rfl,.of (by omega) (by omega),HR2.out,gN⟩
 |false=>
  go_wp2_with fail
  refine(near_big w0 rb a n cap lo hi _ hl hh HR1.out).mono ?_;rintro e u2 ⟨x,rfl,ix,R2,g2⟩;have HR2:Hid (Rd w0 u2 rb a n cap):=R2;clear R2;go_wp2;go_ret;exact⟨_,rfl,ix,HR2.out,grown_pair g1 g2⟩
end Go.Proofs.YtbacmamplkdgaaaGreatDoor
