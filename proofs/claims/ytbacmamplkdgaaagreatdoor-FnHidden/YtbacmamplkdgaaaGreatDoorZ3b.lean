import Derived.Test.YtbacmamplkdgaaaGreatDoorZ2b
import Derived.Test.YtbacmamplkdgaaaGreatDoorZ0b
import Derived.Deep.AppendLies
import Derived.Laws.OwnMore
import Derived.WideShapes
import Derived.Maps.AppendAt
namespace Go.Proofs.YtbacmamplkdgaaaGreatDoor
theorem findI_congr{ids ids':Nat→Int}{n:Nat}(h:∀i,i<n→ids' i=ids i)(x:Int):findI ids' n x=findI ids n x:=by
 apply Option.ext;intro j;unfold findI;rw[List.find?_range_eq_some,List.find?_range_eq_some];constructor
 ·rintro⟨h1,h2,h3⟩;have hj:=List.mem_range.1 h2;rw[h j hj]at h1;exact⟨h1,h2,fun i hi=>by have:=h3 i hi;rw[h i (by omega)]at this;exact this⟩
 ·rintro⟨h1,h2,h3⟩;have hj:=List.mem_range.1 h2;rw[←h j hj]at h1;exact⟨h1,h2,fun i hi=>by have:=h3 i hi;rw[←h i (by omega)]at this;exact this⟩
theorem par_congr{ids ids' ups ups':Nat→Int}{n:Nat}(h:∀i,i<n→ids' i=ids i)(hu:∀i,i<n→ups' i=ups i){i:Nat}(hi:i<n):par ids' ups' n i=par ids ups n i:=by
 unfold par;rw[hu i hi,findI_congr h]
theorem parIt_congr{ids ids' ups ups':Nat→Int}{n:Nat}(h:∀i,i<n→ids' i=ids i)(hu:∀i,i<n→ups' i=ups i)(m:Nat){i:Nat}(hi:i<n):parIt ids' ups' n m i=parIt ids ups n m i:=by
 induction m generalizing i with
 |zero=>rfl
 |succ m ih=>
  simp only[parIt];rw[par_congr h hu hi];cases e:par ids ups n i with
  |none=>rfl
  |some j=>exact ih (par_lt e)
theorem all_congr{n:Nat}{p q:Nat→Bool}(h:∀i,i<n→p i=q i):(List.range n).all p=(List.range n).all q:=by
 rw[Bool.eq_iff_iff];constructor
 ·intro e;exact all_yes fun i hi=>by rw[←h i hi];exact all_out e i hi
 ·intro e;exact all_yes fun i hi=>by rw[h i hi];exact all_out e i hi
theorem reachB_congr{ids ids' ups ups':Nat→Int}{n:Nat}(h:∀i,i<n→ids' i=ids i)(hu:∀i,i<n→ups' i=ups i):reachB ids' ups' n=reachB ids ups n:=by
 unfold reachB;refine all_congr fun i hi=>?_;congr 1;funext m;rw[parIt_congr h hu m hi]
theorem thrOk_same{t u:ThrV}(h:t.same u):thrOkV u=thrOkV t:=by
 obtain⟨h1,h2,⟨a1,a2,a3⟩,h3,⟨b1,b2,b3⟩,⟨c1,c2⟩,h4⟩:=h;simp only[thrOkV,h1,h2,h3,h4,a1,a2,a3,b1,b2,b3,c1,c2]
theorem objOk_same{t u:ObjV}(h:t.same u):objOk u=objOk t:=by
 obtain⟨h1,h2,h3,h4,⟨a1,a2,a3⟩,h5,⟨d1,d2⟩,⟨c1,c2⟩,h6,⟨b1,b2,b3⟩⟩:=h;simp only[objOk,kindB,h2,h4,h5,h6,a1,a2,a3,b1,b2,b3,c1,c2,d1,d2]
theorem look_congr{f g f' g':Nat→Int}{n:Nat}(hf:∀i,i<n→f' i=f i)(hg:∀i,i<n→g' i=g i)(x:Int):look f' g' n x=look f g n x:=by
 induction n with
 |zero=>rfl
 |succ n ih=>
  rw[look,look,hf n (by omega),hg n (by omega),ih (fun i hi=>hf i (by omega)) (fun i hi=>hg i (by omega))]
theorem kerOk_same{k l:KerV}(h:k.same l):kerOk l=kerOk k:=by
 obtain⟨h1,h2,h3,h4⟩:=h;have i1:∀i,i<k.on→(l.O i).id=(k.O i).id:=fun i hi=>(h4 i hi).1;have u1:∀i,i<k.on→(l.O i).up=(k.O i).up:=fun i hi=>(h4 i hi).2.2.1;have k1:∀i,i<k.on→(l.O i).kind=(k.O i).kind:=fun i hi=>(h4 i hi).2.1;have t1:∀i,i<k.tn→(l.T i).id=(k.T i).id:=fun i hi=>(h2 i hi).1;have m1:∀i,i<k.tn→(l.T i).made=(k.T i).made:=fun i hi=>(h2 i hi).2.2.2.2.2.2;by_cases h0:1≤k.on
 ·have e1:thrsOk l.tn l.T=thrsOk k.tn k.T:=by
   unfold thrsOk;rw[h1];congr 1;refine all_congr fun i hi=>?_;unfold thrAt;rw[thrOk_same (h2 i hi),t1 i hi];by_cases e:i=0
   ·subst e;rfl
   ·rw[t1 (i-1) (by omega)]
  have e2:objsOk l.on l.O=objsOk k.on k.O:=by
   unfold objsOk rootB;rw[h3,i1 0 h0,u1 0 h0,k1 0 h0];congr 2;refine all_congr fun i hi=>?_;unfold objAt;rw[objOk_same (h4 i hi),i1 0 h0,i1 i hi];by_cases e:i=0
   ·subst e;rfl
   ·rw[i1 (i-1) (by omega)]
  have e3:numsOk l.tn l.T l.on l.O=numsOk k.tn k.T k.on k.O:=by
   unfold numsOk;rw[h3];refine all_congr fun i hi=>?_;unfold numAt madeOf;rw[i1 (i+1) (by omega),h1,look_congr t1 m1]
  have e4:upsOk l.on l.O=upsOk k.on k.O:=by
   unfold upsOk;rw[h3];refine all_congr fun i hi=>?_;unfold boxAt;rw[u1 (i+1) (by omega),findI_congr i1];split
   ·rename_i u hu;rw[k1 u (findI_some hu).1]
   ·rfl
  unfold kerOk;rw[e1,e2,e3,e4,h3,reachB_congr i1 u1]
 ·rw[kerOk_few (k:=k) (by omega),kerOk_few (k:=l) (by rw[h3];omega)]
inductive Up2(n:Nat) (O:Nat→ObjV):Int→Prop
 |root:Up2 n O (O 0).id
 |up {i:Nat} (h0:0<i) (hi:i<n) (h:Up2 n O (O i).up):Up2 n O (O i).id
structure KOk(k:KerV):Prop where
 thr:thrsOk k.tn k.T=true
 lo:1≤k.on
 root:rootB (k.O 0)=true
 obj:∀i,i<k.on→objOk (k.O i)=true
 rise:Rises (fun i=>(k.O i).id) k.on
 num:∀i,0<i→i<k.on→numAt k.tn k.T (k.O i).id=true
 box:∀i,0<i→i<k.on→∃p,p<k.on∧(k.O p).id=(k.O i).up∧(k.O p).kind=3
 reach:∀i,i<k.on→Up2 k.on k.O (k.O i).id
theorem rises_of{ids:Nat→Int}{n:Nat}(h:∀i,0<i→i<n→ids (i-1)<ids i):Rises ids n:=by
 intro i j hij hj;induction j with
 |zero=>omega
 |succ j ih=>
  have h1:=h (j+1) (by omega) hj;have e:j+1-1=j:=by omega
  rw[e]at h1;by_cases e1:i=j
  ·subst e1;exact h1
  ·have:=ih (by omega) (by omega);omega
theorem boxAt_iff{n:Nat}{O:Nat→ObjV}(h:Rises (fun i=>(O i).id) n){x:Int}:boxAt n O x=true↔∃p,p<n∧(O p).id=x∧(O p).kind=3:=by
 unfold boxAt;constructor
 ·intro hh;cases e:findI (fun i=>(O i).id) n x with
  |none=>rw[e]at hh;cases hh
  |some u=>
   rw[e]at hh;obtain⟨h1,h2⟩:=findI_some e;exact⟨u,h1,h2,by simpa using hh⟩
 ·rintro⟨p,h1,h2,h3⟩;have e:=findI_eq h h1;rw[h2]at e;rw[e];simpa using h3
theorem up2_of{n:Nat}{O:Nat→ObjV}:∀{m i:Nat},i<n→parIt (fun i=>(O i).id) (fun i=>(O i).up) n m i=some 0→Up2 n O (O i).id
 |0,i,_,h=>by
  simp only[parIt,Option.some.injEq]at h;subst h;exact .root
 |m+1,i,hi,h=>by
  simp only[parIt]at h;cases e:par (fun i=>(O i).id) (fun i=>(O i).up) n i with
  |none=>rw[e]at h;cases h
  |some j=>
   rw[e]at h;have hj:=par_lt e;have r:=up2_of hj h;unfold par at e;split at e
   ·cases e
   ·rename_i h0;have:=(findI_some e).2;simp only at this;rw[this]at r;exact .up (by omega) hi r
theorem up2_mem{n:Nat}{O:Nat→ObjV}(h0:0<n){x:Int}(hx:Up2 n O x):∃p,p<n∧(O p).id=x:=by
 induction hx with
 |root=>exact⟨0,h0,rfl⟩
 |@up q _ hq _ _=>exact⟨q,hq,rfl⟩
theorem up2_par{n:Nat}{O:Nat→ObjV}(h:Rises (fun i=>(O i).id) n)(h0:0<n){x:Int}(hx:Up2 n O x):∀i,i<n→(O i).id=x→∃m,parIt (fun i=>(O i).id) (fun i=>(O i).up) n m i=some 0:=by
 induction hx with
 |root=>
  intro i hi e;have:i=0:=h.inj hi h0 e;subst this;exact⟨0,rfl⟩
 |@up j hj0 hj hu ih=>
  intro i hi e;have:i=j:=h.inj hi hj e;subst this;have hp:∃p,p<n∧(O p).id=(O i).up:=up2_mem h0 hu;obtain⟨p,hp1,hp2⟩:=hp;obtain⟨m,hm⟩:=ih p hp1 hp2;refine⟨m+1,?_⟩;have e1:par (fun i=>(O i).id) (fun i=>(O i).up) n i=some p:=by
   unfold par;rw[if_neg (by omega)];have:=findI_eq h hp1;rw[hp2]at this;exact this
  simp only[parIt,e1,Option.bind_some];exact hm
theorem numAt_parts{n:Nat}{T:Nat→ThrV}(h:thrsOk n T=true){id:Int}(hn:numAt n T id=true):∃t,t<n∧(T t).id=id/1000∧1≤id%1000∧id%1000≤(T t).made:=by
 cases e:findI (fun i=>(T i).id) n (id/1000)with
 |none=>rw[numAt_none h e]at hn;cases hn
 |some t=>
  obtain⟨h1,h2⟩:=findI_some e;rw[numAt_some h e]at hn;have:=inB_iff.1 hn;exact⟨t,h1,h2,this.1,this.2⟩
theorem numAt_of{n:Nat}{T:Nat→ThrV}(h:thrsOk n T=true){id:Int}{t:Nat}(h1:t<n)(h2:(T t).id=id/1000)(h3:1≤id%1000)(h4:id%1000≤(T t).made):numAt n T id=true:=by
 have e:=findI_eq (thr_rises h) h1;rw[h2]at e;rw[numAt_some h e];exact inB_iff.2 ⟨h3,h4⟩
theorem KOk.few{k:KerV}(h:KOk k):k.on≤271:=by
 have lo:=h.lo;let g:Nat→Nat:=fun i=>(((k.O (i+1)).id/1000-1)*30+((k.O (i+1)).id%1000-1)).toNat;have hg:∀i,i<k.on-1→1≤(k.O (i+1)).id/1000∧(k.O (i+1)).id/1000≤9∧1≤(k.O (i+1)).id%1000∧(k.O (i+1)).id%1000≤30:=fun i hi=>by
  obtain⟨t,t1,t2,t3,t4⟩:=numAt_parts h.thr (h.num (i+1) (by omega) (by omega));obtain⟨_,_,hT⟩:=thrsOk_out h.thr;have hk:=thrAt_ok (hT t t1);have h1:=thrOk_id hk;have h2:=thrOk_made hk;omega
 have hl:((List.range (k.on-1)).map g).Nodup:=by
  rw[List.Nodup,List.pairwise_map];refine List.Pairwise.imp_of_mem ?_ (List.pairwise_lt_range (n:=k.on-1));intro a b ha hb hab e;have ha':=List.mem_range.1 ha;have hb':=List.mem_range.1 hb;have ga:=hg a ha';have gb:=hg b hb';have hr:=h.rise (a+1) (b+1) (by omega) (by omega);simp only at hr;have e':g a=g b:=e;simp only[g]at e';omega
 have:=nodup_len (n:=270) hl (fun x hx=>by
  obtain⟨i,hi,rfl⟩:=List.mem_map.1 hx;have gi:=hg i (List.mem_range.1 hi);show g i<270;simp only[g];omega)
 simp at this;omega
theorem kerOk_iff{k:KerV}:kerOk k=true↔KOk k:=by
 constructor
 ·intro h;have h1:thrsOk k.tn k.T=true:=by
   cases e:thrsOk k.tn k.T with
   |true=>rfl
   |false=>rw[kerOk_thr e]at h;cases h
  have h2:1≤k.on∧k.on≤271:=by
   by_cases e:1≤k.on∧k.on≤271
   ·exact e
   ·rw[kerOk_few e]at h;cases h
  rw[kerOk_sp h1 h2.1 h2.2,Bool.and_eq_true]at h;have hs:=all_out h.1;have hat:∀i,i<k.on→objOk (k.O i)=true∧(if i=0 then rootB (k.O 0)else decide ((k.O (i-1)).id<(k.O i).id)&&numAt k.tn k.T (k.O i).id&&boxAt k.on k.O (k.O i).up)=true:=fun i hi=>by
   have:=hs i hi;unfold spAt at this;exact Bool.and_eq_true_iff.1 this
  have hrest:∀i,0<i→i<k.on→(k.O (i-1)).id<(k.O i).id∧numAt k.tn k.T (k.O i).id=true∧boxAt k.on k.O (k.O i).up=true:=fun i h0 hi=>by
   have:=(hat i hi).2;rw[if_neg (by omega)]at this;simp only[Bool.and_eq_true,decide_eq_true_eq]at this;exact⟨this.1.1,this.1.2,this.2⟩
  have hr:Rises (fun i=>(k.O i).id) k.on:=rises_of fun i h0 hi=>(hrest i h0 hi).1;refine⟨h1,h2.1,?_,fun i hi=>(hat i hi).1,hr,fun i h0 hi=>(hrest i h0 hi).2.1,fun i h0 hi=>(boxAt_iff hr).1 (hrest i h0 hi).2.2,fun i hi=>?_⟩
  ·have:=(hat 0 (by omega)).2;rw[if_pos rfl]at this;exact this
  ·obtain⟨m,_,hm⟩:=reachB_iff.1 h.2 i hi;exact up2_of hi hm
 ·intro h;have h2:=h.few;rw[kerOk_sp h.thr h.lo h2,Bool.and_eq_true];refine⟨all_yes fun i hi=>?_,reachB_iff.2 fun i hi=>?_⟩
  ·unfold spAt;rw[h.obj i hi,Bool.true_and];by_cases e:i=0
   ·rw[if_pos e];exact h.root
   ·rw[if_neg e];have hr:=h.rise (i-1) i (by omega) hi;simp only at hr;rw[h.num i (by omega) hi,(boxAt_iff h.rise).2 (h.box i (by omega) hi),decide_eq_true hr];rfl
  ·obtain⟨m,hm⟩:=up2_par h.rise (by have:=h.lo;omega) (h.reach i hi) i hi rfl;exact⟨m,height noCyc_zero hi hm,hm⟩
def KerV.setT(k:KerV)(t:Nat)(x:ThrV):KerV:={k with T:=fun j=>if j=t then x else k.T j}
def KerV.setO(k:KerV)(i:Nat)(x:ObjV):KerV:={k with O:=fun j=>if j=i then x else k.O j}
theorem thrsOk_of{n:Nat}{T:Nat→ThrV}(h1:1≤n)(h2:n≤9)(h:∀i,i<n→thrOkV (T i)=true)(hr:Rises (fun i=>(T i).id) n):thrsOk n T=true:=by
 unfold thrsOk;simp only[Bool.and_eq_true,decide_eq_true_eq];refine⟨⟨h1,h2⟩,all_yes fun i hi=>?_⟩;unfold thrAt;rw[h i hi,Bool.true_and];by_cases e:i=0
 ·subst e;rfl
 ·have:=hr (i-1) i (by omega) hi;simp only at this;simp[this]
theorem KOk.setT{k:KerV}(h:KOk k){t:Nat}{x:ThrV}(hx:thrOkV x=true)(hid:x.id=(k.T t).id)(hm:(k.T t).made≤x.made):KOk (k.setT t x):=by
 obtain⟨n1,n9,hT⟩:=thrsOk_out h.thr;have ids:∀j,((k.setT t x).T j).id=(k.T j).id:=fun j=>by
  show(if j=t then x else k.T j).id=_;split
  ·rename_i e;rw[e,hid]
  ·rfl
 have mades:∀j,(k.T j).made≤((k.setT t x).T j).made:=fun j=>by
  show _≤(if j=t then x else k.T j).made;split
  ·rename_i e;rw[e];exact hm
  ·exact Int.le_refl _
 have hthr:thrsOk (k.setT t x).tn (k.setT t x).T=true:=by
  refine thrsOk_of n1 n9 (fun i hi=>?_) (fun i j hij hj=>?_)
  ·show thrOkV (if i=t then x else k.T i)=true;split
   ·exact hx
   ·exact thrAt_ok (hT i hi)
  ·simp only;rw[ids,ids];exact thr_rises h.thr i j hij hj
 refine⟨hthr,h.lo,h.root,h.obj,h.rise,fun i h0 hi=>?_,h.box,h.reach⟩;obtain⟨u,u1,u2,u3,u4⟩:=numAt_parts h.thr (h.num i h0 hi);exact numAt_of hthr (t:=u) u1 ((ids u).trans u2) u3 (Int.le_trans u4 (mades u))
theorem up2_congr{n:Nat}{O P:Nat→ObjV}(h0:(P 0).id=(O 0).id)(h1:∀i,i<n→(P i).id=(O i).id∧(P i).up=(O i).up){x:Int}(hx:Up2 n O x):Up2 n P x:=by
 induction hx with
 |root=>rw[←h0];exact .root
 |@up i i0 hi _ ih=>
  rw[←(h1 i hi).1];refine .up i0 hi ?_;rw[(h1 i hi).2];exact ih
theorem KOk.setO{k:KerV}(h:KOk k){i:Nat}{x:ObjV}(hx:objOk x=true)(h1:x.id=(k.O i).id)(h2:x.kind=(k.O i).kind)(h3:x.up=(k.O i).up):KOk (k.setO i x):=by
 have same:∀j,((k.setO i x).O j).id=(k.O j).id∧((k.setO i x).O j).kind=(k.O j).kind∧((k.setO i x).O j).up=(k.O j).up:=fun j=>by
  show(if j=i then x else k.O j).id=_∧(if j=i then x else k.O j).kind=_∧(if j=i then x else k.O j).up=_;split
  ·rename_i e;rw[e];exact⟨h1,h2,h3⟩
  ·exact⟨rfl,rfl,rfl⟩
 refine⟨h.thr,h.lo,?_,fun j hj=>?_,fun a b hab hb=>?_,fun j j0 hj=>?_,fun j j0 hj=>?_,fun j hj=>?_⟩
 ·have:=h.root;unfold rootB at this ⊢;rw[(same 0).1,(same 0).2.1,(same 0).2.2];exact this
 ·show objOk (if j=i then x else k.O j)=true;split
  ·exact hx
  ·exact h.obj j hj
 ·simp only;rw[(same a).1,(same b).1];exact h.rise a b hab hb
 ·rw[(same j).1];exact h.num j j0 hj
 ·obtain⟨p,p1,p2,p3⟩:=h.box j j0 hj;exact⟨p,p1,by rw[(same p).1,(same j).2.2];exact p2,by rw[(same p).2.1];exact p3⟩
 ·rw[(same j).1];exact up2_congr (same 0).1 (fun i _=>⟨(same i).1,(same i).2.2⟩) (h.reach j hj)
def insO(O:Nat→ObjV)(p:Nat)(x:ObjV)(j:Nat):ObjV:=if j<p then O j else if j=p then x else O (j-1)
def KerV.ins(k:KerV)(p:Nat)(x:ObjV):KerV:={k with on:=k.on+1,O:=insO k.O p x}
theorem insO_lt{O:Nat→ObjV}{p j:Nat}{x:ObjV}(h:j<p):insO O p x j=O j:=by unfold insO;rw[if_pos h]
theorem insO_at{O:Nat→ObjV}{p:Nat}{x:ObjV}:insO O p x p=x:=by unfold insO;rw[if_neg (Nat.lt_irrefl _),if_pos rfl]
theorem insO_gt{O:Nat→ObjV}{p j:Nat}{x:ObjV}(h:p<j):insO O p x j=O (j-1):=by unfold insO;rw[if_neg (by omega),if_neg (by omega)]
theorem insO_old{O:Nat→ObjV}{p:Nat}{x:ObjV}(j:Nat):∃i,i≤j+1∧j≤i∧insO O p x i=O j∧(0<j→0<i):=by
 by_cases e:j<p
 ·exact⟨j,by omega,by omega,insO_lt e,fun h=>h⟩
 ·refine⟨j+1,by omega,by omega,?_,fun _=>by omega⟩;rw[insO_gt (by omega)];rfl
theorem KOk.ins{k:KerV}(h:KOk k){p:Nat}{x:ObjV}(p0:0<p)(hp:p≤k.on)(hlo:∀j,j<p→(k.O j).id<x.id)(hhi:∀j,p≤j→j<k.on→x.id<(k.O j).id)(hx:objOk x=true)(hn:numAt k.tn k.T x.id=true)(hb:∃q,q<k.on∧(k.O q).id=x.up∧(k.O q).kind=3):KOk (k.ins p x):=by
 have e0:insO k.O p x 0=k.O 0:=insO_lt p0;have cases3:∀j,j<k.on+1→(j<p∧insO k.O p x j=k.O j)∨(j=p∧insO k.O p x j=x)∨(p<j∧j-1<k.on∧insO k.O p x j=k.O (j-1)):=fun j hj=>by
  by_cases e1:j<p
  ·exact .inl ⟨e1,insO_lt e1⟩
  ·by_cases e2:j=p
   ·exact .inr (.inl ⟨e2,by rw[e2];exact insO_at⟩)
   ·exact .inr (.inr ⟨by omega,by omega,insO_gt (by omega)⟩)
 have mono:∀{y:Int},Up2 k.on k.O y→Up2 (k.on+1) (insO k.O p x) y:=fun{y} hy=>by
  induction hy with
  |root=>rw[←e0];exact .root
  |@up i i0 hi _ ih=>
   obtain⟨j,j1,_,j2,j3⟩:=insO_old (O:=k.O) (p:=p) (x:=x) i;rw[←j2];refine .up (j3 i0) (by omega) ?_;rw[j2];exact ih
 obtain⟨q,q1,q2,q3⟩:=hb;refine⟨h.thr,by show 1≤k.on+1;omega,?_,fun j hj=>?_,rises_of fun j j0 hj=>?_,fun j j0 hj=>?_,fun j j0 hj=>?_,fun j hj=>?_⟩
 ·show rootB (insO k.O p x 0)=true;rw[e0];exact h.root
 ·show objOk (insO k.O p x j)=true;rcases cases3 j hj with⟨c,e⟩|⟨_,e⟩|⟨_,c,e⟩<;>rw[e]
  ·exact h.obj j (by omega)
  ·exact hx
  ·exact h.obj _ c
 ·show(insO k.O p x (j-1)).id<(insO k.O p x j).id;rcases cases3 j hj with⟨c,e⟩|⟨c,e⟩|⟨c,c2,e⟩
  ·rw[e,insO_lt (by omega)];exact h.rise (j-1) j (by omega) (by omega)
  ·rw[e,insO_lt (by omega)];exact hlo _ (by omega)
  ·rw[e];by_cases e3:j-1=p
   ·rw[e3,insO_at];exact hhi p (Nat.le_refl _) (by omega)
   ·rw[insO_gt (by omega)];exact h.rise (j-1-1) (j-1) (by omega) (by omega)
 ·show numAt k.tn k.T (insO k.O p x j).id=true;rcases cases3 j hj with⟨c,e⟩|⟨_,e⟩|⟨c,c2,e⟩<;>rw[e]
  ·exact h.num j j0 (by omega)
  ·exact hn
  ·exact h.num (j-1) (by omega) c2
 ·have par:∀{y:Int},(∃q,q<k.on∧(k.O q).id=y∧(k.O q).kind=3)→∃r,r<k.on+1∧(insO k.O p x r).id=y∧(insO k.O p x r).kind=3:=fun⟨q,q1,q2,q3⟩=>by
   obtain⟨r,r1,_,r2,_⟩:=insO_old (O:=k.O) (p:=p) (x:=x) q;exact⟨r,by omega,by rw[r2];exact q2,by rw[r2];exact q3⟩
  show ∃r,r<k.on+1∧(insO k.O p x r).id=(insO k.O p x j).up∧(insO k.O p x r).kind=3;rcases cases3 j hj with⟨c,e⟩|⟨_,e⟩|⟨c,c2,e⟩<;>rw[e]
  ·exact par (h.box j j0 (by omega))
  ·exact par ⟨q,q1,q2,q3⟩
  ·exact par (h.box (j-1) (by omega) c2)
 ·show Up2 (k.on+1) (insO k.O p x) (insO k.O p x j).id;rcases cases3 j hj with⟨c,e⟩|⟨c,e⟩|⟨c,c2,e⟩
  ·rw[e];exact mono (h.reach j (by omega))
  ·refine .up (by omega) hj ?_;rw[e,←q2];exact mono (h.reach q q1)
  ·rw[e];exact mono (h.reach _ c2)
def keptL(n:Nat)(keep:Nat→Bool):List Nat:=(List.range n).filter keep
def KerV.cut(k:KerV)(keep:Nat→Bool):KerV:={k with on:=(keptL k.on keep).length,O:=fun j=>k.O ((keptL k.on keep).getD j 0)}
theorem keptL_at{n:Nat}{keep:Nat→Bool}{j:Nat}(hj:j<(keptL n keep).length):(keptL n keep).getD j 0<n∧keep ((keptL n keep).getD j 0)=true:=by
 have e:(keptL n keep).getD j 0=(keptL n keep)[j]:=by simp[List.getD,hj]
 have hm:=List.getElem_mem hj;rw[e];obtain⟨h1,h2⟩:=List.mem_filter.1 hm;exact⟨List.mem_range.1 h1,h2⟩
theorem keptL_find{n:Nat}{keep:Nat→Bool}{i:Nat}(hi:i<n)(hk:keep i=true):∃j,j<(keptL n keep).length∧(keptL n keep).getD j 0=i:=by
 have hm:i∈keptL n keep:=List.mem_filter.2 ⟨List.mem_range.2 hi,hk⟩;obtain⟨j,hj,e⟩:=List.getElem_of_mem hm;exact⟨j,hj,by simp[List.getD,hj,e]⟩
theorem keptL_rise{n:Nat}{keep:Nat→Bool}{a b:Nat}(hab:a<b)(hb:b<(keptL n keep).length):(keptL n keep).getD a 0<(keptL n keep).getD b 0:=by
 have hp:(keptL n keep).Pairwise (· <·):=List.Pairwise.sublist List.filter_sublist (List.pairwise_lt_range (n:=n));have:=List.pairwise_iff_getElem.1 hp a b (by omega) hb hab;simpa[List.getD,hb,show a<(keptL n keep).length by omega]using this
theorem KOk.cut{k:KerV}(h:KOk k){keep:Nat→Bool}(k0:keep 0=true)(hup:∀i p,0<i→i<k.on→p<k.on→(k.O p).id=(k.O i).up→keep i=true→keep p=true):KOk (k.cut keep):=by
 have lo:=h.lo;obtain⟨z,z1,z2⟩:=keptL_find (keep:=keep) (show 0<k.on by omega) k0;have zz:z=0:=by
  by_cases e:z=0
  ·exact e
  ·have:=keptL_rise (n:=k.on) (keep:=keep) (a:=0) (b:=z) (by omega) z1;omega
 rw[zz]at z1 z2;have eO:∀j,(k.cut keep).O j=k.O ((keptL k.on keep).getD j 0):=fun _=>rfl;have e0:(k.cut keep).O 0=k.O 0:=by rw[eO,z2]
 have pos:∀{j},0<j→j<(keptL k.on keep).length→0<(keptL k.on keep).getD j 0:=fun{j} j0 hj=>by
  have:=keptL_rise (n:=k.on) (keep:=keep) (a:=0) (b:=j) j0 hj;omega
 have stay:∀{y:Int},Up2 k.on k.O y→∀i,i<k.on→(k.O i).id=y→keep i=true→Up2 (keptL k.on keep).length (k.cut keep).O y:=fun{y} hy=>by
  induction hy with
  |root=>intro i _ _ _;rw[←e0];exact .root
  |@up j j0 hj hu ih=>
   intro i hi e hk;have:i=j:=h.rise.inj hi hj e;subst this;obtain⟨m,m1,m2⟩:=keptL_find (keep:=keep) hi hk;have em:(k.cut keep).O m=k.O i:=(by rw[eO,m2]);rw[←em];have m0:0<m:=by
    by_cases e:m=0
    ·rw[e,z2]at m2;omega
    ·omega
   refine .up m0 m1 ?_;rw[em];obtain⟨p,p1,p2,_⟩:=h.box i j0 hj;exact ih p p1 p2 (hup i p j0 hj p1 p2 hk)
 refine⟨h.thr,z1,?_,fun j hj=>?_,fun a b hab hb=>?_,fun j j0 hj=>?_,fun j j0 hj=>?_,fun j hj=>?_⟩
 ·rw[e0];exact h.root
 ·rw[eO];exact h.obj _ (keptL_at hj).1
 ·simp only;rw[eO,eO];exact h.rise _ _ (keptL_rise hab hb) (keptL_at hb).1
 ·rw[eO];exact h.num _ (pos j0 hj) (keptL_at hj).1
 ·rw[eO];obtain⟨p,p1,p2,p3⟩:=h.box _ (pos j0 hj) (keptL_at hj).1;obtain⟨m,m1,m2⟩:=keptL_find (keep:=keep) p1 (hup _ p (pos j0 hj) (keptL_at hj).1 p1 p2 (keptL_at hj).2);exact⟨m,m1,by rw[eO,m2];exact p2,by rw[eO,m2];exact p3⟩
 ·rw[eO];exact stay (h.reach _ (keptL_at hj).1) _ (keptL_at hj).1 rfl (keptL_at hj).2
open Go.RowKit Go.Deep Go.Maps
open Go.WideShapes (add_plain)
def catCells(f g:Nat→Int)(n:Nat):List Value:=(List.range (n*2)).map (pairCell f g)
theorem catCells_length(f g:Nat→Int)(n:Nat):(catCells f g n).length=n*2:=by simp[catCells]
theorem catCells_get(f g:Nat→Int)(n j:Nat)(h:j<n*2):(catCells f g n)[j]? =some (pairCell f g j):=by simp[catCells,h]
theorem catCells_one(f g:Nat→Int)(n:Nat):∀u∈catCells f g n,u.oneCell'=true:=by
 intro u hu;obtain⟨j,_,rfl⟩:=List.mem_map.1 hu;unfold pairCell;split<;>rfl
def glue(n:Nat)(f f':Nat→Int)(i:Nat):Int:=if i<n then f i else f' (i-n)
theorem catCells_append(f g f' g':Nat→Int)(n m:Nat):catCells f g n++catCells f' g' m=catCells (glue n f f') (glue n g g') (n+m):=by
 apply List.ext_getElem?;intro j;by_cases h1:j<n*2
 ·rw[List.getElem?_append_left (by rw[catCells_length];exact h1),catCells_get _ _ _ _ h1,catCells_get _ _ _ _ (by omega)];have:j/2<n:=by omega
  simp[pairCell,glue,this]
 ·rw[List.getElem?_append_right (by rw[catCells_length];omega),catCells_length];by_cases h2:j<(n+m)*2
  ·rw[catCells_get _ _ _ _ (by omega),catCells_get _ _ _ _ h2];have a1:¬j/2<n:=(by omega);have a2:(j-n*2)/2=j/2-n:=(by omega);have a3:(j-n*2)%2=j%2:=(by omega);simp[pairCell,glue,a1,a2,a3]
  ·rw[List.getElem?_eq_none (by rw[catCells_length];omega),List.getElem?_eq_none (by rw[catCells_length];omega)]
def OwnCats(w:World)(B:Nat)(v:Value)(n:Nat)(f g:Nat→Int):Prop:=w.ownsRow B 88 2 v n (catCells f g n)
theorem OwnCats.nil(w:World)(B:Nat)(f g:Nat→Int):OwnCats w B (.slice none 0 0) 0 f g:=World.ownsRow_nil _ _ _ _
theorem OwnCats.cats{w:World}{B n c:Nat}{a:Option Addr}{f g:Nat→Int}(h:OwnCats w B (.slice a n c) n f g):CatsAt w a n f g:=fun hn=>by
 obtain⟨gb,cap,hv,_,hlt⟩:=World.ownsRow.form h hn;simp only[Value.slice.injEq]at hv;obtain⟨rfl,_,_⟩:=hv;have hc:=World.ownsRow.cells h (g:=gb) rfl;refine⟨gb,0,rfl,hlt,fun i hi=>⟨?_,?_⟩⟩
 ·have t:=hc (i*2) _ (catCells_get f g n (i*2) (by omega));rw[add_plain]at t;rw[t];have e1:i*2%2=0:=by omega
  have e2:i*2/2=i:=by omega
  simp only[pairCell,e1,e2,if_true]
 ·have t:=hc (i*2+1) _ (catCells_get f g n (i*2+1) (by omega));rw[add_plain,←Nat.add_assoc]at t;rw[t];have e1:¬(i*2+1)%2=0:=by omega
  have e2:(i*2+1)/2=i:=by omega
  simp only[pairCell,e2,if_neg e1]
theorem OwnCats.shape{w:World}{B n:Nat}{v:Value}{f g:Nat→Int}(h:OwnCats w B v n f g):∃a c,v= .slice a n c:=by
 rcases h.2 with⟨rfl,rfl⟩|⟨gb,cap,cur,rfl,_⟩
 ·exact⟨_,_,rfl⟩
 ·exact⟨_,_,rfl⟩
theorem news_of_cats{w:World}{b off m:Nat}{f g:Nat→Int}(h:∀i,i<m→w.cell? ⟨b,off+i*2,none⟩=some (.int .i64 (f i))∧w.cell? ⟨b,off+i*2+1,none⟩=some (.int .i64 (g i))):
 ∀j u,(catCells f g m)[j]? =some u→w.cell? ((⟨b,off,none⟩:Addr).add j)=some u:=by
 intro j u hu;have hj:j<m*2:=by
  apply Nat.lt_of_not_le;intro hle;rw[List.getElem?_eq_none (by rw[catCells_length];exact hle)]at hu;cases hu
 rw[catCells_get _ _ _ _ hj]at hu;cases hu;obtain⟨h1,h2⟩:=h (j/2) (by omega);rw[add_plain];rcases Nat.mod_two_eq_zero_or_one j with e|e
 ·have e2:off+j/2*2=off+j:=by omega
  rw[e2]at h1;rw[h1];simp[pairCell,e]
 ·have e2:off+j/2*2+1=off+j:=by omega
  rw[e2]at h2;rw[h2];simp[pairCell,e]
theorem run_append_cats_some(w:World)(ty B:Nat)(v:Value)(n:Nat)(f g:Nat→Int)(hown:OwnCats w B v n f g)(a:Addr)(m c:Nat)(f' g':Nat→Int)
 (hnews:∀j u,(catCells f' g' m)[j]? =some u→w.cell? (a.add j)=some u)(hm:n+m≤4194304)(hB:B≤w.heap.size):
 ∃a' c' w',(Builtin.append_ #[28,28] ty #[v,.slice (some a) m c]).run Tryz.prog w= .ok (.slice a' (n+m) c') w'∧OwnCats w' B (.slice a' (n+m) c') (n+m) (glue n f f') (glue n g g')∧w.grownBy w' v.ownBlock∧
  ((Value.slice a' (n+m) c').ownBlock=v.ownBlock∨(Value.slice a' (n+m) c').ownBlock=some w.heap.size):=by
 obtain⟨i0,hi,hz0,hz1,hz2⟩:=info_parts Tryz.info88;obtain⟨v',w',hr,h2,h3,_,h5⟩:=run_append_own_at (P:=Tryz.prog) w B 28 ty 88 i0 _ 2 16 Tryz.underlying28 hi hz0 hz1 hz2 rfl (by omega) v n (catCells f g n) hown a m c (catCells f' g' m) (catCells_length _ _ _) hnews (catCells_one _ _ _) (by unfold maxLen;omega) (by omega) hB;rw[catCells_append]at h2;obtain⟨a',c',rfl⟩:=OwnCats.shape h2;exact⟨a',c',w',hr,h2,h3,h5⟩
theorem run_append_cats(w:World)(ty B:Nat)(v:Value)(n:Nat)(f g:Nat→Int)(hown:OwnCats w B v n f g)(ad:Option Addr)(m c:Nat)(f' g':Nat→Int)(hc:CatsAt w ad m f' g')
 (hm:n+m≤4194304)(hB:B≤w.heap.size):
 ∃a' c' w',(Builtin.append_ #[28,28] ty #[v,.slice ad m c]).run Tryz.prog w= .ok (.slice a' (n+m) c') w'∧OwnCats w' B (.slice a' (n+m) c') (n+m) (glue n f f') (glue n g g')∧w.grownBy w' v.ownBlock∧
  ((Value.slice a' (n+m) c').ownBlock=v.ownBlock∨(Value.slice a' (n+m) c').ownBlock=some w.heap.size):=by
 by_cases h0:0<m
 ·obtain⟨b,off,rfl,_,hcc⟩:=hc h0;exact run_append_cats_some w ty B v n f g hown _ m c f' g' (news_of_cats hcc) hm hB
 ·obtain rfl:m=0:=by omega
  cases ad with
  |some a=>exact run_append_cats_some w ty B v n f g hown a 0 c f' g' (fun j u hu=>by simp[catCells]at hu) hm hB
  |none=>
   obtain⟨i0,hi,hz0,hz1,hz2⟩:=info_parts Tryz.info88;have e:=catCells_append f g f' g' n 0;have e0:catCells f' g' 0=[]:=rfl;rw[e0,List.append_nil]at e;have hown':=hown;unfold OwnCats at hown' ⊢;rw[e]at hown';obtain⟨a',c',rfl⟩:=OwnCats.shape hown;refine⟨a',c',w,?_,hown',⟨rfl,rfl,rfl,Nat.le_refl _,fun _ _ _=>rfl⟩,.inl rfl⟩;obtain⟨_,hx⟩:=hown;rcases hx with⟨hv,rfl⟩|⟨gb,cap,cur,hv,_,_,hnc,_⟩
   ·simp only[Value.slice.injEq]at hv;obtain⟨rfl,_,rfl⟩:=hv;simp[Builtin.append_,run_underlying Tryz.underlying28,sizeOf,typeInfo,hi,Builtin.lenOf,Builtin.firstCells]
   ·simp only[Value.slice.injEq]at hv;obtain⟨rfl,_,rfl⟩:=hv;simp[Builtin.append_,run_underlying Tryz.underlying28,sizeOf,typeInfo,hi,Builtin.lenOf,Builtin.firstCells,hnc,storeCells]
theorem wp_append_cats{o:Oper}{a:Act}{K:Act→World→Prop}{Q:Exit→Act→World→Prop}(w:World)(s x:Operand)
 (ho:o.op= .call {callee:= .builtin .append,args:=#[s,x],argTypes:=#[28,28]})
 (B:Nat)(v:Value)(n:Nat)(f g:Nat→Int)(hs:a.eval s=v)(hown:OwnCats w B v n f g)(ad:Option Addr)(m c:Nat)(f' g':Nat→Int)(hx:a.eval x= .slice ad m c)(hc:CatsAt w ad m f' g')
 (hm:n+m≤4194304)(hB:B≤w.heap.size)
 (h:∀a' c' w',OwnCats w' B (.slice a' (n+m) c') (n+m) (glue n f f') (glue n g g')→w.grownBy w' v.ownBlock→((Value.slice a' (n+m) c').ownBlock=v.ownBlock∨(Value.slice a' (n+m) c').ownBlock=some w.heap.size)→K (a.put o.dst (.slice a' (n+m) c')) w'):o.wp Tryz.prog a w K Q:=by
 obtain⟨a',c',w',hr,h2,h3,h4⟩:=run_append_cats w o.type B v n f g hown ad m c f' g' hc hm hB;unfold Oper.wp execOp;simp only[ho,resolve,invoke,builtin,Sem.run_bind,Sem.run_pure,Result.andThen_ok,List.map_toArray,List.map_cons,List.map_nil,hs,hx,hr];exact h a' c' w' h2 h3 h4
theorem wpList_append_cats{ops:Array Oper}{rest:List Oper}{o:Oper}{a:Act}{Q:Exit→Act→World→Prop}(w:World)(hgd:o.guard=none)(s x:Operand)
 (ho:o.op= .call {callee:= .builtin .append,args:=#[s,x],argTypes:=#[28,28]})
 (B:Nat)(v:Value)(n:Nat)(f g:Nat→Int)(hs:a.eval s=v)(hown:OwnCats w B v n f g)(ad:Option Addr)(m c:Nat)(f' g':Nat→Int)(hx:a.eval x= .slice ad m c)(hc:CatsAt w ad m f' g')
 (hm:n+m≤4194304)(hB:B≤w.heap.size)
 (h:∀a' c' w',OwnCats w' B (.slice a' (n+m) c') (n+m) (glue n f f') (glue n g g')→w.grownBy w' v.ownBlock→((Value.slice a' (n+m) c').ownBlock=v.ownBlock∨(Value.slice a' (n+m) c').ownBlock=some w.heap.size)→wpList Tryz.prog ops Q rest (a.put o.dst (.slice a' (n+m) c')) w'):wpList Tryz.prog ops Q (o::rest) a w:=
 wpList_plain hgd fun _ hK=>wp_append_cats w s x ho B v n f g hs hown ad m c f' g' hx hc hm hB fun a' c' w' h2 h3 h4=>hK _ _ (h a' c' w' h2 h3 h4)
theorem step_append_cats{ops:Array Oper}{o:Oper}{a:Act}{K:Act→World→Prop}{Q:Exit→Act→World→Prop}{E:Prop}(w:World)(hgd:o.guard=none)(s x:Operand)
 (ho:o.op= .call {callee:= .builtin .append,args:=#[s,x],argTypes:=#[28,28]})
 (B:Nat)(v:Value)(n:Nat)(f g:Nat→Int)(hs:a.eval s=v)(hown:OwnCats w B v n f g)(ad:Option Addr)(m c:Nat)(f' g':Nat→Int)(hx:a.eval x= .slice ad m c)(hc:CatsAt w ad m f' g')
 (hm:n+m≤4194304)(hB:B≤w.heap.size)
 (h:∀a' c' w',OwnCats w' B (.slice a' (n+m) c') (n+m) (glue n f f') (glue n g g')→w.grownBy w' v.ownBlock→((Value.slice a' (n+m) c').ownBlock=v.ownBlock∨(Value.slice a' (n+m) c').ownBlock=some w.heap.size)→K (a.put o.dst (.slice a' (n+m) c')) w'):
 if Region.wanted o (yielded ops a.tmps)=true then Oper.wp Tryz.prog o a w K Q else E:=by
 have hw:Region.wanted o (yielded ops a.tmps)=true:=by simp[Region.wanted,hgd]
 rw[if_pos hw];exact wp_append_cats w s x ho B v n f g hs hown ad m c f' g' hx hc hm hB h
theorem glue_zero(f f':Nat→Int):glue 0 f f'=f':=by funext i;simp[glue]
theorem step_append_cats0{ops:Array Oper}{o:Oper}{a:Act}{K:Act→World→Prop}{Q:Exit→Act→World→Prop}{E:Prop}(w:World)(hgd:o.guard=none)(s x:Operand)
 (ho:o.op= .call {callee:= .builtin .append,args:=#[s,x],argTypes:=#[28,28]})
 (B:Nat)(v:Value)(f g:Nat→Int)(hs:a.eval s=v)(hown:OwnCats w B v 0 f g)(ad:Option Addr)(m c:Nat)(f' g':Nat→Int)(hx:a.eval x= .slice ad m c)(hc:CatsAt w ad m f' g')
 (hm:m≤4194304)(hB:B≤w.heap.size)
 (h:∀a' c' w',OwnCats w' B (.slice a' m c') m f' g'→w.grownBy w' v.ownBlock→((Value.slice a' m c').ownBlock=v.ownBlock∨(Value.slice a' m c').ownBlock=some w.heap.size)→K (a.put o.dst (.slice a' m c')) w'):
 if Region.wanted o (yielded ops a.tmps)=true then Oper.wp Tryz.prog o a w K Q else E:=by
 refine step_append_cats w hgd s x ho B v 0 f g hs hown ad m c f' g' hx hc (by omega) hB ?_;rw[glue_zero,glue_zero,Nat.zero_add];exact h
open Go
open Go.WideShapes (add_plain)
def LiesC(w:World)(ad:Option Addr)(n:Nat)(cs:List Value):Prop:=
 0<n→∃b off,ad=some ⟨b,off,none⟩∧b<w.heap.size∧∀j u,cs[j]? =some u→w.cell? ⟨b,off+j,none⟩=some u
theorem LiesC.below{w w':World}{ad:Option Addr}{n:Nat}{cs:List Value}(h:LiesC w ad n cs)(hb:Below w.heap.size w w'):LiesC w' ad n cs:=fun hn=>by
 obtain⟨b,off,e,hlt,hc⟩:=h hn;exact⟨b,off,e,Nat.lt_of_lt_of_le hlt hb.size,fun j u hu=>(hb.cell (p:=⟨b,off+j,none⟩) hlt).trans (hc j u hu)⟩
theorem LiesC.own{w:World}{B e size n c:Nat}{a:Option Addr}{cs:List Value}(h:w.ownsRow B e size (.slice a n c) n cs):LiesC w a n cs:=fun hn=>by
 obtain⟨gb,cap,hv,_,hlt⟩:=World.ownsRow.form h hn;simp only[Value.slice.injEq]at hv;obtain⟨rfl,_,_⟩:=hv;have hc:=World.ownsRow.cells h (g:=gb) rfl;refine⟨gb,0,rfl,hlt,fun j u hu=>?_⟩;have t:=hc j u hu;rw[add_plain]at t;exact t
theorem ownsRow_shape{w:World}{B e size n:Nat}{v:Value}{cs:List Value}(h:w.ownsRow B e size v n cs):∃a c,v= .slice a n c:=by
 rcases h.2 with⟨rfl,rfl⟩|⟨gb,cap,cur,rfl,_⟩
 ·exact⟨_,_,rfl⟩
 ·exact⟨_,_,rfl⟩
section
variable {t e size bytes:Nat}{z:Value} (hT:Tryz.prog.underlying t=some (.slice e)) (hI:(Tryz.prog.info? e).map (fun i=>(i.zero,i.size,i.bytes))=some (some z,size,bytes)) (hzs:z.cells.size=size) (hsz:0<size)
include hT hI hzs hsz
theorem run_append_gen(w:World)(ty B:Nat)(v:Value)(n:Nat)(cs:List Value)(hown:w.ownsRow B e size v n cs)(ad:Option Addr)(m c:Nat)(cs':List Value)(hl:cs'.length=m*size)(hc:LiesC w ad m cs')(h1:∀u∈cs',u.oneCell'=true)
 (hm:n+m≤4194304)(hby:(n+m)*bytes≤140737488355328)(hB:B≤w.heap.size):
 ∃a' c' w',(Builtin.append_ #[t,t] ty #[v,.slice ad m c]).run Tryz.prog w= .ok (.slice a' (n+m) c') w'∧w'.ownsRow B e size (.slice a' (n+m) c') (n+m) (cs++cs')∧w.grownBy w' v.ownBlock∧
  ((Value.slice a' (n+m) c').ownBlock=v.ownBlock∨(Value.slice a' (n+m) c').ownBlock=some w.heap.size):=by
 obtain⟨i0,hi,hz0,hz1,hz2⟩:=info_parts hI;have some':∀a:Addr,(∀j u,cs'[j]? =some u→w.cell? (a.add j)=some u)→∃a' c' w',(Builtin.append_ #[t,t] ty #[v,.slice (some a) m c]).run Tryz.prog w= .ok (.slice a' (n+m) c') w'∧w'.ownsRow B e size (.slice a' (n+m) c') (n+m) (cs++cs')∧w.grownBy w' v.ownBlock∧
  ((Value.slice a' (n+m) c').ownBlock=v.ownBlock∨(Value.slice a' (n+m) c').ownBlock=some w.heap.size):=fun a hnews=>by
  obtain⟨v',w',hr,h2,h3,_,h5⟩:=run_append_own_at (P:=Tryz.prog) w B t ty e i0 _ size bytes hT hi hz0 hz1 hz2 hzs hsz v n cs hown a m c cs' hl hnews h1 (by unfold maxLen;omega) hby hB;obtain⟨a',c',rfl⟩:=ownsRow_shape h2;exact⟨a',c',w',hr,h2,h3,h5⟩
 by_cases h0:0<m
 ·obtain⟨b,off,rfl,_,hcc⟩:=hc h0;exact some' _ (fun j u hu=>by rw[add_plain];exact hcc j u hu)
 ·obtain rfl:m=0:=by omega
  have e0:cs'=[]:=List.eq_nil_of_length_eq_zero (by omega);subst e0;cases ad with
  |some a=>exact some' a (fun j u hu=>by simp at hu)
  |none=>
   obtain⟨a',c',rfl⟩:=ownsRow_shape hown;rw[List.append_nil];refine⟨a',c',w,?_,hown,⟨rfl,rfl,rfl,Nat.le_refl _,fun _ _ _=>rfl⟩,.inl rfl⟩;obtain⟨_,hx⟩:=hown;rcases hx with⟨hv,rfl⟩|⟨gb,cap,cur,hv,_,_,hnc,_⟩
   ·simp only[Value.slice.injEq]at hv;obtain⟨rfl,_,rfl⟩:=hv;simp[Builtin.append_,run_underlying hT,sizeOf,typeInfo,hi,Builtin.lenOf,Builtin.firstCells]
   ·simp only[Value.slice.injEq]at hv;obtain⟨rfl,_,rfl⟩:=hv;simp[Builtin.append_,run_underlying hT,sizeOf,typeInfo,hi,Builtin.lenOf,Builtin.firstCells,hnc,storeCells]
theorem wp_append_gen{o:Oper}{a:Act}{K:Act→World→Prop}{Q:Exit→Act→World→Prop}(w:World)(s x:Operand)
 (ho:o.op= .call {callee:= .builtin .append,args:=#[s,x],argTypes:=#[t,t]})
 (B:Nat)(v:Value)(n:Nat)(cs:List Value)(hs:a.eval s=v)(hown:w.ownsRow B e size v n cs)(ad:Option Addr)(m c:Nat)(cs':List Value)(hx:a.eval x= .slice ad m c)(hl:cs'.length=m*size)(hc:LiesC w ad m cs')(h1:∀u∈cs',u.oneCell'=true)
 (hm:n+m≤4194304)(hby:(n+m)*bytes≤140737488355328)(hB:B≤w.heap.size)
 (h:∀a' c' w',w'.ownsRow B e size (.slice a' (n+m) c') (n+m) (cs++cs')→w.grownBy w' v.ownBlock→((Value.slice a' (n+m) c').ownBlock=v.ownBlock∨(Value.slice a' (n+m) c').ownBlock=some w.heap.size)→K (a.put o.dst (.slice a' (n+m) c')) w'):o.wp Tryz.prog a w K Q:=by
 obtain⟨a',c',w',hr,h2,h3,h4⟩:=run_append_gen hT hI hzs hsz w o.type B v n cs hown ad m c cs' hl hc h1 hm hby hB;unfold Oper.wp execOp;simp only[ho,resolve,invoke,builtin,Sem.run_bind,Sem.run_pure,Result.andThen_ok,List.map_toArray,List.map_cons,List.map_nil,hs,hx,hr];exact h a' c' w' h2 h3 h4
end
def OwnI(w:World)(B:Nat)(v:Value)(l:List Int):Prop:=w.ownsRow B 2 1 v l.length (l.map (Value.int .i64))
def NumL(w:World)(ad:Option Addr)(l:List Int):Prop:=LiesC w ad l.length (l.map (Value.int .i64))
theorem NumL.below{w w':World}{ad:Option Addr}{l:List Int}(h:NumL w ad l)(hb:Below w.heap.size w w'):NumL w' ad l:=LiesC.below h hb
theorem OwnI.lies{w:World}{B c:Nat}{a:Option Addr}{l:List Int}(h:OwnI w B (.slice a l.length c) l):NumL w a l:=LiesC.own h
theorem OwnI.nil(w:World)(B:Nat):OwnI w B (.slice none 0 0) []:=World.ownsRow_nil _ _ _ _
theorem OwnI.made(w:World)(B:Nat)(hb:B≤w.heap.size):OwnI (w.alloc (.cells #[] 2)) B (.slice (some ⟨w.heap.size,0,none⟩) 0 0) []:=World.ownsRow_made w #[] 0 hb (Nat.zero_le _) rfl
theorem OwnI.alloc{w:World}{B:Nat}{v:Value}{l:List Int}(h:OwnI w B v l)(o:Obj):OwnI (w.alloc o) B v l:=World.ownsRow.alloc h o
def nthI(l:List Int)(i:Nat):Int:=l.getD i 0
theorem NumL.ints{w:World}{ad:Option Addr}{l:List Int}(h:NumL w ad l):IntsAt w ad l.length (nthI l):=fun hn=>by
 obtain⟨b,off,e,hlt,hc⟩:=h hn;exact⟨b,off,e,hlt,fun i hi=>hc i _ (by simp[nthI,hi])⟩
theorem IntsAt.intL{w:World}{ad:Option Addr}{n:Nat}{h:Nat→Int}(hc:IntsAt w ad n h):NumL w ad ((List.range n).map h):=fun hn=>by
 have hn':0<n:=by simpa using hn
 obtain⟨b,off,e,hlt,hcc⟩:=hc hn';refine⟨b,off,e,hlt,fun j u hu=>?_⟩;by_cases hj:j<n
 ·simp[hj]at hu;rw[←hu];exact hcc j hj
 ·simp[hj]at hu
theorem wpList_append_ints{ops:Array Oper}{rest:List Oper}{o:Oper}{a:Act}{Q:Exit→Act→World→Prop}(w:World)(hgd:o.guard=none)(s x:Operand)
 (ho:o.op= .call {callee:= .builtin .append,args:=#[s,x],argTypes:=#[34,34]})
 (B:Nat)(v:Value)(l:List Int)(hs:a.eval s=v)(hown:OwnI w B v l)(ad:Option Addr)(m c:Nat)(l':List Int)(hx:a.eval x= .slice ad m c)(hm':l'.length=m)(hc:NumL w ad l')
 (hm:l.length+m≤4194304)(hB:B≤w.heap.size)
 (h:∀a' c' w',OwnI w' B (.slice a' (l++l').length c') (l++l')→w.grownBy w' v.ownBlock→((Value.slice a' (l++l').length c').ownBlock=v.ownBlock∨(Value.slice a' (l++l').length c').ownBlock=some w.heap.size)→wpList Tryz.prog ops Q rest (a.put o.dst (.slice a' (l++l').length c')) w'):wpList Tryz.prog ops Q (o::rest) a w:=by
 subst hm';refine wpList_plain hgd fun _ hK=>wp_append_gen Tryz.underlying34 Tryz.info2 rfl (by omega) w s x ho B v l.length _ hs hown ad l'.length c _ hx (by simp) hc (fun u hu=>by obtain⟨y,_,rfl⟩:=List.mem_map.1 hu;rfl) hm (by omega) hB fun a' c' w' h2 h3 h4=>hK _ _ ?_;rw[←List.map_append,←List.length_append]at h2;rw[←List.length_append]at h4 ⊢;exact h a' c' w' h2 h3 h4
theorem wpList_append_intsR{ops:Array Oper}{rest:List Oper}{o:Oper}{a:Act}{Q:Exit→Act→World→Prop}(w:World)(hgd:o.guard=none)(s x:Operand)
 (ho:o.op= .call {callee:= .builtin .append,args:=#[s,x],argTypes:=#[34,34]})
 (B:Nat)(v:Value)(l:List Int)(hs:a.eval s=v)(hown:OwnI w B v l)(ad:Option Addr)(m c:Nat)(l':List Int)(hx:a.eval x= .slice ad m c)(hm':l'.length=m)(hc:NumL w ad l')(R:List Int)(hR:R=l++l')
 (hm:R.length≤4194304)(hB:B≤w.heap.size)
 (h:∀a' c' w',OwnI w' B (.slice a' R.length c') R→w.grownBy w' v.ownBlock→((Value.slice a' R.length c').ownBlock=v.ownBlock∨(Value.slice a' R.length c').ownBlock=some w.heap.size)→wpList Tryz.prog ops Q rest (a.put o.dst (.slice a' R.length c')) w'):wpList Tryz.prog ops Q (o::rest) a w:=by
 subst hR;exact wpList_append_ints w hgd s x ho B v l hs hown ad m c l' hx hm' hc (by rw[List.length_append]at hm;omega) hB h
theorem NumL.take{w:World}{b off:Nat}{l:List Int}(h:NumL w (some ⟨b,off,none⟩) l)(k:Nat):NumL w (some ⟨b,off,none⟩) (l.take k):=fun hn=>by
 have hl:0<l.length:=by simp at hn;omega
 obtain⟨b',off',e,hlt,hc⟩:=h hl;cases e;refine⟨b,off,rfl,hlt,fun j u hu=>hc j u ?_⟩;rw[List.map_take,List.getElem?_take]at hu;split at hu
 ·exact hu
 ·cases hu
theorem NumL.drop{w:World}{b off:Nat}{l:List Int}(h:NumL w (some ⟨b,off,none⟩) l)(k:Nat):NumL w (some ⟨b,off+k,none⟩) (l.drop k):=fun hn=>by
 have hl:0<l.length:=by simp at hn;omega
 obtain⟨b',off',e,hlt,hc⟩:=h hl;cases e;refine⟨b,off+k,rfl,hlt,fun j u hu=>?_⟩;rw[List.map_drop,List.getElem?_drop]at hu;have:=hc (k+j) u hu;rw[Nat.add_assoc];exact this
theorem NumL.one{w:World}(x:Int):NumL (w.alloc (.cells #[.int .i64 x] 2)) (some ⟨w.heap.size,0,none⟩) [x]:=fun _=>
 ⟨w.heap.size,0,rfl,by simp,fun j u hu=>by
   cases j with
   |zero=>simp at hu;subst hu;simp
   |succ j=>simp at hu⟩
theorem NumL.none(w:World)(ad:Option Addr):NumL w ad []:=fun h=>by simp at h
end Go.Proofs.YtbacmamplkdgaaaGreatDoor
