import Derived.Test.YtphddbnadcjhgaaGreatDoorZ2
import Derived.Test.YtphddbnadcjhgaaGreatDoorZ0
import Derived.Deep.AppendLies
import Derived.Laws.OwnMore
import Derived.WideShapes
import Derived.Maps.AppendAt
import Derived.Test.YtphddbnadcjhgaaGreatDoorZ1
import Derived.Deep.RegionHeld3
import Derived.Deep.QuietTactic
import Derived.BigQuiet
namespace Go.Proofs.YtphddbnadcjhgaaGreatDoor
def Aq.setT(k:Aq)(t:Nat)(x:Ac):Aq:={k with T:=fun j=>if j=t then x else k.T j}
def Aq.setO(k:Aq)(i:Nat)(x:Ab):Aq:={k with O:=fun j=>if j=i then x else k.O j}
theorem OY{n:Nat}{T:Nat->Ac}(h1:1<=n)(h2:n<=9)(h:∀i,i<n->Cn (T i)=true)(hr:Db (fun i=>(T i).id) n):Bo n T=true:=by
 unfold Bo;simp only[Bool.and_eq_true,decide_eq_true_eq];refine⟨⟨h1,h2⟩,DK fun i hi=>?_⟩;unfold Dq;rw[h i hi,Bool.true_and];by_cases e:i=0
 ·subst e;rfl
 ·have:=hr (i-1) i (by omega) hi;simp only at this;simp[this]
theorem SQ.setT{k:Aq}(h:SQ k){t:Nat}{x:Ac}(hx:Cn x=true)(hid:x.id=(k.T t).id)(hm:(k.T t).made<=x.made):SQ (k.setT t x):=by
 obtain⟨n1,n9,hT⟩:=Cp h.thr;have ids:∀j,((k.setT t x).T j).id=(k.T j).id:=fun j=>by
  show(if j=t then x else k.T j).id=_;split
  ·rename_i e;rw[e,hid]
  ·rfl
 have mades:∀j,(k.T j).made<=((k.setT t x).T j).made:=fun j=>by
  show _<=(if j=t then x else k.T j).made;split
  ·rename_i e;rw[e];exact hm
  ·exact Int.le_refl _
 have hthr:Bo (k.setT t x).tn (k.setT t x).T=true:=by
  refine OY n1 n9 (fun i hi=>?_) (fun i j hij hj=>?_)
  ·show Cn (if i=t then x else k.T i)=true;split
   ·exact hx
   ·exact MJ (hT i hi)
  ·simp only;rw[ids,ids];exact IU h.thr i j hij hj
 refine⟨hthr,h.lo,h.root,h.obj,h.rise,fun i h0 hi=>?_,h.box,h.reach⟩;obtain⟨u,u1,u2,u3,u4⟩:=FQ h.thr (h.num i h0 hi);exact Ri hthr (t:=u) u1 ((ids u).trans u2) u3 (Int.le_trans u4 (mades u))
theorem Vf{n:Nat}{O P:Nat->Ab}(h0:(P 0).id=(O 0).id)(h1:∀i,i<n->(P i).id=(O i).id/\(P i).up=(O i).up){x:Int}(hx:Sv n O x):Sv n P x:=by
 induction hx with
 |root=>rw[<-h0];exact .root
 |@up i i0 hi _ ih=>
  rw[<-(h1 i hi).1];refine .up i0 hi ?_;rw[(h1 i hi).2];exact ih
theorem SQ.setO{k:Aq}(h:SQ k){i:Nat}{x:Ab}(hx:BZ x=true)(h1:x.id=(k.O i).id)(h2:x.kind=(k.O i).kind)(h3:x.up=(k.O i).up):SQ (k.setO i x):=by
 have same:∀j,((k.setO i x).O j).id=(k.O j).id/\((k.setO i x).O j).kind=(k.O j).kind/\((k.setO i x).O j).up=(k.O j).up:=fun j=>by
  show(if j=i then x else k.O j).id=_/\(if j=i then x else k.O j).kind=_/\(if j=i then x else k.O j).up=_;split
  ·rename_i e;rw[e];exact⟨h1,h2,h3⟩
  ·exact⟨rfl,rfl,rfl⟩
 refine⟨h.thr,h.lo,?_,fun j hj=>?_,fun a b hab hb=>?_,fun j j0 hj=>?_,fun j j0 hj=>?_,fun j hj=>?_⟩
 ·have:=h.root;unfold Fo at this ⊢;rw[(same 0).1,(same 0).2.1,(same 0).2.2];exact this
 ·show BZ (if j=i then x else k.O j)=true;split
  ·exact hx
  ·exact h.obj j hj
 ·simp only;rw[(same a).1,(same b).1];exact h.rise a b hab hb
 ·rw[(same j).1];exact h.num j j0 hj
 ·obtain⟨p,p1,p2,p3⟩:=h.box j j0 hj;exact⟨p,p1,by rw[(same p).1,(same j).2.2];exact p2,by rw[(same p).2.1];exact p3⟩
 ·rw[(same j).1];exact Vf (same 0).1 (fun i _=>⟨(same i).1,(same i).2.2⟩) (h.reach j hj)
def Fu(O:Nat->Ab)(p:Nat)(x:Ab)(j:Nat):Ab:=if j<p then O j else if j=p then x else O (j-1)
def Aq.ins(k:Aq)(p:Nat)(x:Ab):Aq:={k with on:=k.on+1,O:=Fu k.O p x}
theorem JZ{O:Nat->Ab}{p j:Nat}{x:Ab}(h:j<p):Fu O p x j=O j:=by unfold Fu;rw[if_pos h]
theorem Uj{O:Nat->Ab}{p:Nat}{x:Ab}:Fu O p x p=x:=by unfold Fu;rw[if_neg (Nat.lt_irrefl _),if_pos rfl]
theorem P9{O:Nat->Ab}{p j:Nat}{x:Ab}(h:p<j):Fu O p x j=O (j-1):=by unfold Fu;rw[if_neg (by omega),if_neg (by omega)]
theorem Rl{O:Nat->Ab}{p:Nat}{x:Ab}(j:Nat):∃i,i<=j+1/\j<=i/\Fu O p x i=O j/\(0<j->0<i):=by
 by_cases e:j<p
 ·exact⟨j,by omega,by omega,JZ e,fun h=>h⟩
 ·refine⟨j+1,by omega,by omega,?_,fun _=>by omega⟩;rw[P9 (by omega)];rfl
theorem SQ.ins{k:Aq}(h:SQ k){p:Nat}{x:Ab}(p0:0<p)(hp:p<=k.on)(hlo:∀j,j<p->(k.O j).id<x.id)(hhi:∀j,p<=j->j<k.on->x.id<(k.O j).id)(hx:BZ x=true)(hn:Ex k.tn k.T x.id=true)(hb:∃q,q<k.on/\(k.O q).id=x.up/\(k.O q).kind=3):SQ (k.ins p x):=by
 have e0:Fu k.O p x 0=k.O 0:=JZ p0;have cases3:∀j,j<k.on+1->(j<p/\Fu k.O p x j=k.O j)∨(j=p/\Fu k.O p x j=x)∨(p<j/\j-1<k.on/\Fu k.O p x j=k.O (j-1)):=fun j hj=>by
  by_cases e1:j<p
  ·exact .inl ⟨e1,JZ e1⟩
  ·by_cases e2:j=p
   ·exact .inr (.inl ⟨e2,by rw[e2];exact Uj⟩)
   ·exact .inr (.inr ⟨by omega,by omega,P9 (by omega)⟩)
 have mono:∀{y:Int},Sv k.on k.O y->Sv (k.on+1) (Fu k.O p x) y:=fun{y} hy=>by
  induction hy with
  |root=>rw[<-e0];exact .root
  |@up i i0 hi _ ih=>
   obtain⟨j,j1,_,j2,j3⟩:=Rl (O:=k.O) (p:=p) (x:=x) i;rw[<-j2];refine .up (j3 i0) (by omega) ?_;rw[j2];exact ih
 obtain⟨q,q1,q2,q3⟩:=hb;refine⟨h.thr,by show 1<=k.on+1;omega,?_,fun j hj=>?_,JH fun j j0 hj=>?_,fun j j0 hj=>?_,fun j j0 hj=>?_,fun j hj=>?_⟩
 ·show Fo (Fu k.O p x 0)=true;rw[e0];exact h.root
 ·show BZ (Fu k.O p x j)=true;rcases cases3 j hj with⟨c,e⟩|⟨_,e⟩|⟨_,c,e⟩<;>rw[e]
  ·exact h.obj j (by omega)
  ·exact hx
  ·exact h.obj _ c
 ·show(Fu k.O p x (j-1)).id<(Fu k.O p x j).id;rcases cases3 j hj with⟨c,e⟩|⟨c,e⟩|⟨c,c2,e⟩
  ·rw[e,JZ (by omega)];exact h.rise (j-1) j (by omega) (by omega)
  ·rw[e,JZ (by omega)];exact hlo _ (by omega)
  ·rw[e];by_cases e3:j-1=p
   ·rw[e3,Uj];exact hhi p (Nat.le_refl _) (by omega)
   ·rw[P9 (by omega)];exact h.rise (j-1-1) (j-1) (by omega) (by omega)
 ·show Ex k.tn k.T (Fu k.O p x j).id=true;rcases cases3 j hj with⟨c,e⟩|⟨_,e⟩|⟨c,c2,e⟩<;>rw[e]
  ·exact h.num j j0 (by omega)
  ·exact hn
  ·exact h.num (j-1) (by omega) c2
 ·have IM:∀{y:Int},(∃q,q<k.on/\(k.O q).id=y/\(k.O q).kind=3)->∃r,r<k.on+1/\(Fu k.O p x r).id=y/\(Fu k.O p x r).kind=3:=fun⟨q,q1,q2,q3⟩=>by
   obtain⟨r,r1,_,r2,_⟩:=Rl (O:=k.O) (p:=p) (x:=x) q;exact⟨r,by omega,by rw[r2];exact q2,by rw[r2];exact q3⟩
  show ∃r,r<k.on+1/\(Fu k.O p x r).id=(Fu k.O p x j).up/\(Fu k.O p x r).kind=3;rcases cases3 j hj with⟨c,e⟩|⟨_,e⟩|⟨c,c2,e⟩<;>rw[e]
  ·exact IM (h.box j j0 (by omega))
  ·exact IM ⟨q,q1,q2,q3⟩
  ·exact IM (h.box (j-1) (by omega) c2)
 ·show Sv (k.on+1) (Fu k.O p x) (Fu k.O p x j).id;rcases cases3 j hj with⟨c,e⟩|⟨c,e⟩|⟨c,c2,e⟩
  ·rw[e];exact mono (h.reach j (by omega))
  ·refine .up (by omega) hj ?_;rw[e,<-q2];exact mono (h.reach q q1)
  ·rw[e];exact mono (h.reach _ c2)
def DU(n:Nat)(keep:Nat->Bool):List Nat:=(List.range n).filter keep
def Aq.cut(k:Aq)(keep:Nat->Bool):Aq:={k with on:=(DU k.on keep).length,O:=fun j=>k.O ((DU k.on keep).getD j 0)}
theorem Fb{n:Nat}{keep:Nat->Bool}{j:Nat}(hj:j<(DU n keep).length):(DU n keep).getD j 0<n/\keep ((DU n keep).getD j 0)=true:=by
 have e:(DU n keep).getD j 0=(DU n keep)[j]:=by simp[List.getD,hj]
 have hm:=List.getElem_mem hj;rw[e];obtain⟨h1,h2⟩:=List.mem_filter.1 hm;exact⟨List.mem_range.1 h1,h2⟩
theorem Jp{n:Nat}{keep:Nat->Bool}{i:Nat}(hi:i<n)(hk:keep i=true):∃j,j<(DU n keep).length/\(DU n keep).getD j 0=i:=by
 have hm:i∈DU n keep:=List.mem_filter.2 ⟨List.mem_range.2 hi,hk⟩;obtain⟨j,hj,e⟩:=List.getElem_of_mem hm;exact⟨j,hj,by simp[List.getD,hj,e]⟩
theorem Jj{n:Nat}{keep:Nat->Bool}{a b:Nat}(hab:a<b)(hb:b<(DU n keep).length):(DU n keep).getD a 0<(DU n keep).getD b 0:=by
 have hp:(DU n keep).Pairwise (· <·):=List.Pairwise.sublist List.filter_sublist (List.pairwise_lt_range (n:=n));have:=List.pairwise_iff_getElem.1 hp a b (by omega) hb hab;simpa[List.getD,hb,show a<(DU n keep).length by omega]using this
theorem SQ.cut{k:Aq}(h:SQ k){keep:Nat->Bool}(k0:keep 0=true)(hup:∀i p,0<i->i<k.on->p<k.on->(k.O p).id=(k.O i).up->keep i=true->keep p=true):SQ (k.cut keep):=by
 have lo:=h.lo;obtain⟨z,z1,z2⟩:=Jp (keep:=keep) (show 0<k.on by omega) k0;have zz:z=0:=by
  by_cases e:z=0
  ·exact e
  ·have:=Jj (n:=k.on) (keep:=keep) (a:=0) (b:=z) (by omega) z1;omega
 rw[zz]at z1 z2;have eO:∀j,(k.cut keep).O j=k.O ((DU k.on keep).getD j 0):=fun _=>rfl;have e0:(k.cut keep).O 0=k.O 0:=by rw[eO,z2]
 have pos:∀{j},0<j->j<(DU k.on keep).length->0<(DU k.on keep).getD j 0:=fun{j} j0 hj=>by
  have:=Jj (n:=k.on) (keep:=keep) (a:=0) (b:=j) j0 hj;omega
 have stay:∀{y:Int},Sv k.on k.O y->∀i,i<k.on->(k.O i).id=y->keep i=true->Sv (DU k.on keep).length (k.cut keep).O y:=fun{y} hy=>by
  induction hy with
  |root=>intro i _ _ _;rw[<-e0];exact .root
  |@up j j0 hj hu ih=>
   intro i hi e hk;have:i=j:=h.rise.inj hi hj e;subst this;obtain⟨m,m1,m2⟩:=Jp (keep:=keep) hi hk;have em:(k.cut keep).O m=k.O i:=(by rw[eO,m2]);rw[<-em];have m0:0<m:=by
    by_cases e:m=0
    ·rw[e,z2]at m2;omega
    ·omega
   refine .up m0 m1 ?_;rw[em];obtain⟨p,p1,p2,_⟩:=h.box i j0 hj;exact ih p p1 p2 (hup i p j0 hj p1 p2 hk)
 refine⟨h.thr,z1,?_,fun j hj=>?_,fun a b hab hb=>?_,fun j j0 hj=>?_,fun j j0 hj=>?_,fun j hj=>?_⟩
 ·rw[e0];exact h.root
 ·rw[eO];exact h.obj _ (Fb hj).1
 ·simp only;rw[eO,eO];exact h.rise _ _ (Jj hab hb) (Fb hb).1
 ·rw[eO];exact h.num _ (pos j0 hj) (Fb hj).1
 ·rw[eO];obtain⟨p,p1,p2,p3⟩:=h.box _ (pos j0 hj) (Fb hj).1;obtain⟨m,m1,m2⟩:=Jp (keep:=keep) p1 (hup _ p (pos j0 hj) (Fb hj).1 p1 p2 (Fb hj).2);exact⟨m,m1,by rw[eO,m2];exact p2,by rw[eO,m2];exact p3⟩
 ·rw[eO];exact stay (h.reach _ (Fb hj).1) _ (Fb hj).1 rfl (Fb hj).2
open Go.RowKit Go.Deep Go.Maps Go.Proofs.Tryz
open Go.WideShapes (add_plain)
def BF(f g:Nat->Int)(n:Nat):List Value:=(List.range (n*2)).map (CR f g)
theorem Ci(f g:Nat->Int)(n:Nat):(BF f g n).length=n*2:=by simp[BF]
theorem Da(f g:Nat->Int)(n j:Nat)(h:j<n*2):(BF f g n)[j]? =some (CR f g j):=by simp[BF,h]
theorem J0(f g:Nat->Int)(n:Nat):∀u∈BF f g n,u.oneCell'=true:=by
 intro u hu;obtain⟨j,_,rfl⟩:=List.mem_map.1 hu;unfold CR;split<;>rfl
def glue(n:Nat)(f f':Nat->Int)(i:Nat):Int:=if i<n then f i else f' (i-n)
theorem Hy(f g f' g':Nat->Int)(n m:Nat):BF f g n++BF f' g' m=BF (glue n f f') (glue n g g') (n+m):=by
 apply List.ext_getElem?;intro j;by_cases h1:j<n*2
 ·rw[List.getElem?_append_left (by rw[Ci];exact h1),Da _ _ _ _ h1,Da _ _ _ _ (by omega)];have:j/2<n:=by omega
  simp[CR,glue,this]
 ·rw[List.getElem?_append_right (by rw[Ci];omega),Ci];by_cases h2:j<(n+m)*2
  ·rw[Da _ _ _ _ (by omega),Da _ _ _ _ h2];have a1:¬j/2<n:=(by omega);have a2:(j-n*2)/2=j/2-n:=(by omega);have a3:(j-n*2)%2=j%2:=(by omega);simp[CR,glue,a1,a2,a3]
  ·rw[List.getElem?_eq_none (by rw[Ci];omega),List.getElem?_eq_none (by rw[Ci];omega)]
def Az(w:World)(B:Nat)(v:Value)(n:Nat)(f g:Nat->Int):Prop:=w.ownsRow B 118 2 v n (BF f g n)
theorem Az.nil(w:World)(B:Nat)(f g:Nat->Int):Az w B (.slice none 0 0) 0 f g:=World.ownsRow_nil _ _ _ _
theorem Az.cats{w:World}{B n c:Nat}{a:Option Addr}{f g:Nat->Int}(h:Az w B (.slice a n c) n f g):AL w a n f g:=fun hn=>by
 obtain⟨gb,cap,hv,_,hlt⟩:=World.ownsRow.form h hn;simp only[Value.slice.injEq]at hv;obtain⟨rfl,_,_⟩:=hv;have hc:=World.ownsRow.cells h (g:=gb) rfl;refine⟨gb,0,rfl,hlt,fun i hi=>⟨?_,?_⟩⟩
 ·have t:=hc (i*2) _ (Da f g n (i*2) (by omega));rw[add_plain]at t;rw[t];have e1:i*2%2=0:=by omega
  have e2:i*2/2=i:=by omega
  simp only[CR,e1,e2,if_true]
 ·have t:=hc (i*2+1) _ (Da f g n (i*2+1) (by omega));rw[add_plain,<-Nat.add_assoc]at t;rw[t];have e1:¬(i*2+1)%2=0:=by omega
  have e2:(i*2+1)/2=i:=by omega
  simp only[CR,e2,if_neg e1]
theorem Az.shape{w:World}{B n:Nat}{v:Value}{f g:Nat->Int}(h:Az w B v n f g):∃a c,v= .slice a n c:=by
 rcases h.2 with⟨rfl,rfl⟩|⟨gb,cap,cur,rfl,_⟩
 ·exact⟨_,_,rfl⟩
 ·exact⟨_,_,rfl⟩
theorem Ps{w:World}{b off m:Nat}{f g:Nat->Int}(h:∀i,i<m->w.cell? ⟨b,off+i*2,none⟩=some (.int .i64 (f i))/\w.cell? ⟨b,off+i*2+1,none⟩=some (.int .i64 (g i))):
 ∀j u,(BF f g m)[j]? =some u->w.cell? ((⟨b,off,none⟩:Addr).add j)=some u:=by
 intro j u hu;have hj:j<m*2:=by
  apply Nat.lt_of_not_le;intro hle;rw[List.getElem?_eq_none (by rw[Ci];exact hle)]at hu;cases hu
 rw[Da _ _ _ _ hj]at hu;cases hu;obtain⟨h1,h2⟩:=h (j/2) (by omega);rw[add_plain];rcases Nat.mod_two_eq_zero_or_one j with e|e
 ·have e2:off+j/2*2=off+j:=by omega
  rw[e2]at h1;rw[h1];simp[CR,e]
 ·have e2:off+j/2*2+1=off+j:=by omega
  rw[e2]at h2;rw[h2];simp[CR,e]
theorem FP(w:World)(ty B:Nat)(v:Value)(n:Nat)(f g:Nat->Int)(hown:Az w B v n f g)(a:Addr)(m c:Nat)(f' g':Nat->Int)
 (hnews:∀j u,(BF f' g' m)[j]? =some u->w.cell? (a.add j)=some u)(hm:n+m<=4194304)(hB:B<=w.heap.size):
 ∃a' c' w',(Builtin.append_ #[28,28] ty #[v,.slice (some a) m c]).run prog w= .ok (.slice a' (n+m) c') w'/\Az w' B (.slice a' (n+m) c') (n+m) (glue n f f') (glue n g g')/\w.grownBy w' v.ownBlock/\
  ((Value.slice a' (n+m) c').ownBlock=v.ownBlock∨(Value.slice a' (n+m) c').ownBlock=some w):=by
 obtain⟨i0,hi,hz0,hz1,hz2⟩:=info_parts Tryz.info118;obtain⟨v',w',hr,h2,h3,_,h5⟩:=run_append_own_at (P:=prog) w B 28 ty 118 i0 _ 2 16 underlying28 hi hz0 hz1 hz2 rfl (by omega) v n (BF f g n) hown a m c (BF f' g' m) (Ci _ _ _) hnews (J0 _ _ _) (by unfold maxLen;omega) (by omega) hB;rw[Hy]at h2;obtain⟨a',c',rfl⟩:=Az.shape h2;exact⟨a',c',w',hr,h2,h3,h5⟩
theorem LC(w:World)(ty B:Nat)(v:Value)(n:Nat)(f g:Nat->Int)(hown:Az w B v n f g)(ad:Option Addr)(m c:Nat)(f' g':Nat->Int)(hc:AL w ad m f' g')
 (hm:n+m<=4194304)(hB:B<=w.heap.size):
 ∃a' c' w',(Builtin.append_ #[28,28] ty #[v,.slice ad m c]).run prog w= .ok (.slice a' (n+m) c') w'/\Az w' B (.slice a' (n+m) c') (n+m) (glue n f f') (glue n g g')/\w.grownBy w' v.ownBlock/\
  ((Value.slice a' (n+m) c').ownBlock=v.ownBlock∨(Value.slice a' (n+m) c').ownBlock=some w):=by
 by_cases h0:0<m
 ·obtain⟨b,off,rfl,_,hcc⟩:=hc h0;exact FP w ty B v n f g hown _ m c f' g' (Ps hcc) hm hB
 ·obtain rfl:m=0:=by omega
  cases ad with
  |some a=>exact FP w ty B v n f g hown a 0 c f' g' (fun j u hu=>by simp[BF]at hu) hm hB
  |none=>
   obtain⟨i0,hi,hz0,hz1,hz2⟩:=info_parts Tryz.info118;have e:=Hy f g f' g' n 0;have e0:BF f' g' 0=[]:=rfl;rw[e0,List.append_nil]at e;have hown':=hown;unfold Az at hown' ⊢;rw[e]at hown';obtain⟨a',c',rfl⟩:=Az.shape hown;refine⟨a',c',w,?_,hown',⟨rfl,rfl,rfl,Nat.le_refl _,fun _ _ _=>rfl⟩,.inl rfl⟩;obtain⟨_,hx⟩:=hown;rcases hx with⟨hv,rfl⟩|⟨gb,cap,cur,hv,_,_,hnc,_⟩
   ·simp only[Value.slice.injEq]at hv;obtain⟨rfl,_,rfl⟩:=hv;simp[Builtin.append_,run_underlying underlying28,sizeOf,typeInfo,hi,Builtin.lenOf,Builtin.firstCells]
   ·simp only[Value.slice.injEq]at hv;obtain⟨rfl,_,rfl⟩:=hv;simp[Builtin.append_,run_underlying underlying28,sizeOf,typeInfo,hi,Builtin.lenOf,Builtin.firstCells,hnc,storeCells]
theorem Iw{o:Oper}{a:Act}{K:Act->World->Prop}{Q:Exit->Act->World->Prop}(w:World)(s x:Operand)
 (ho:o.op= .call {callee:= .builtin .append,args:=#[s,x],argTypes:=#[28,28]})
 (B:Nat)(v:Value)(n:Nat)(f g:Nat->Int)(hs:a.eval s=v)(hown:Az w B v n f g)(ad:Option Addr)(m c:Nat)(f' g':Nat->Int)(hx:a.eval x= .slice ad m c)(hc:AL w ad m f' g')
 (hm:n+m<=4194304)(hB:B<=w.heap.size)
 (h:∀a' c' w',Az w' B (.slice a' (n+m) c') (n+m) (glue n f f') (glue n g g')->w.grownBy w' v.ownBlock->((Value.slice a' (n+m) c').ownBlock=v.ownBlock∨(Value.slice a' (n+m) c').ownBlock=some w)->K (a.put o.dst (.slice a' (n+m) c')) w'):o.wp prog a w K Q:=by
 obtain⟨a',c',w',hr,h2,h3,h4⟩:=LC w o.type B v n f g hown ad m c f' g' hc hm hB;unfold Oper.wp execOp;simp only[ho,resolve,invoke,builtin,Sem.run_bind,Sem.run_pure,Result.andThen_ok,List.map_toArray,List.map_cons,List.map_nil,hs,hx,hr];exact h a' c' w' h2 h3 h4
theorem Gq{ops:Array Oper}{rest:List Oper}{o:Oper}{a:Act}{Q:Exit->Act->World->Prop}(w:World)(hgd:o.guard=none)(s x:Operand)
 (ho:o.op= .call {callee:= .builtin .append,args:=#[s,x],argTypes:=#[28,28]})
 (B:Nat)(v:Value)(n:Nat)(f g:Nat->Int)(hs:a.eval s=v)(hown:Az w B v n f g)(ad:Option Addr)(m c:Nat)(f' g':Nat->Int)(hx:a.eval x= .slice ad m c)(hc:AL w ad m f' g')
 (hm:n+m<=4194304)(hB:B<=w.heap.size)
 (h:∀a' c' w',Az w' B (.slice a' (n+m) c') (n+m) (glue n f f') (glue n g g')->w.grownBy w' v.ownBlock->((Value.slice a' (n+m) c').ownBlock=v.ownBlock∨(Value.slice a' (n+m) c').ownBlock=some w)->wpList prog ops Q rest (a.put o.dst (.slice a' (n+m) c')) w'):wpList prog ops Q (o::rest) a w:=
 wpList_plain hgd fun _ hK=>Iw w s x ho B v n f g hs hown ad m c f' g' hx hc hm hB fun a' c' w' h2 h3 h4=>hK _ _ (h a' c' w' h2 h3 h4)
theorem Eg{ops:Array Oper}{o:Oper}{a:Act}{K:Act->World->Prop}{Q:Exit->Act->World->Prop}{E:Prop}(w:World)(hgd:o.guard=none)(s x:Operand)
 (ho:o.op= .call {callee:= .builtin .append,args:=#[s,x],argTypes:=#[28,28]})
 (B:Nat)(v:Value)(n:Nat)(f g:Nat->Int)(hs:a.eval s=v)(hown:Az w B v n f g)(ad:Option Addr)(m c:Nat)(f' g':Nat->Int)(hx:a.eval x= .slice ad m c)(hc:AL w ad m f' g')
 (hm:n+m<=4194304)(hB:B<=w.heap.size)
 (h:∀a' c' w',Az w' B (.slice a' (n+m) c') (n+m) (glue n f f') (glue n g g')->w.grownBy w' v.ownBlock->((Value.slice a' (n+m) c').ownBlock=v.ownBlock∨(Value.slice a' (n+m) c').ownBlock=some w)->K (a.put o.dst (.slice a' (n+m) c')) w'):
 if Region.wanted o (yielded ops a.tmps)=true then Oper.wp prog o a w K Q else E:=by
 have hw:Region.wanted o (yielded ops a.tmps)=true:=by simp[Region.wanted,hgd]
 rw[if_pos hw];exact Iw w s x ho B v n f g hs hown ad m c f' g' hx hc hm hB h
theorem Pj(f f':Nat->Int):glue 0 f f'=f':=by funext i;simp[glue]
theorem GB{ops:Array Oper}{o:Oper}{a:Act}{K:Act->World->Prop}{Q:Exit->Act->World->Prop}{E:Prop}(w:World)(hgd:o.guard=none)(s x:Operand)
 (ho:o.op= .call {callee:= .builtin .append,args:=#[s,x],argTypes:=#[28,28]})
 (B:Nat)(v:Value)(f g:Nat->Int)(hs:a.eval s=v)(hown:Az w B v 0 f g)(ad:Option Addr)(m c:Nat)(f' g':Nat->Int)(hx:a.eval x= .slice ad m c)(hc:AL w ad m f' g')
 (hm:m<=4194304)(hB:B<=w.heap.size)
 (h:∀a' c' w',Az w' B (.slice a' m c') m f' g'->w.grownBy w' v.ownBlock->((Value.slice a' m c').ownBlock=v.ownBlock∨(Value.slice a' m c').ownBlock=some w)->K (a.put o.dst (.slice a' m c')) w'):
 if Region.wanted o (yielded ops a.tmps)=true then Oper.wp prog o a w K Q else E:=by
 refine Eg w hgd s x ho B v 0 f g hs hown ad m c f' g' hx hc (by omega) hB ?_;rw[Pj,Pj,Nat.zero_add];exact h
open Go
open Go.WideShapes (add_plain)
def Bn(w:World)(ad:Option Addr)(n:Nat)(cs:List Value):Prop:=
 0<n->∃b off,ad=some ⟨b,off,none⟩/\b<w.heap.size/\∀j u,cs[j]? =some u->w.cell? ⟨b,off+j,none⟩=some u
theorem Bn.below{w w':World}{ad:Option Addr}{n:Nat}{cs:List Value}(h:Bn w ad n cs)(hb:Below w w w'):Bn w' ad n cs:=fun hn=>by
 obtain⟨b,off,e,hlt,hc⟩:=h hn;exact⟨b,off,e,Nat.lt_of_lt_of_le hlt hb.size,fun j u hu=>(hb.cell (p:=⟨b,off+j,none⟩) hlt).trans (hc j u hu)⟩
theorem Bn.own{w:World}{B e size n c:Nat}{a:Option Addr}{cs:List Value}(h:w.ownsRow B e size (.slice a n c) n cs):Bn w a n cs:=fun hn=>by
 obtain⟨gb,cap,hv,_,hlt⟩:=World.ownsRow.form h hn;simp only[Value.slice.injEq]at hv;obtain⟨rfl,_,_⟩:=hv;have hc:=World.ownsRow.cells h (g:=gb) rfl;refine⟨gb,0,rfl,hlt,fun j u hu=>?_⟩;have t:=hc j u hu;rw[add_plain]at t;exact t
theorem CF{w:World}{B e size n:Nat}{v:Value}{cs:List Value}(h:w.ownsRow B e size v n cs):∃a c,v= .slice a n c:=by
 rcases h.2 with⟨rfl,rfl⟩|⟨gb,cap,cur,rfl,_⟩
 ·exact⟨_,_,rfl⟩
 ·exact⟨_,_,rfl⟩
section
variable {t e size bytes:Nat}{z:Value} (hT:prog.underlying t=some (.slice e)) (hI:(prog.info? e).map (fun i=>(i.zero,i.size,i.bytes))=some (some z,size,bytes)) (hzs:z.cells.size=size) (hsz:0<size)
include hT hI hzs hsz
theorem Gr(w:World)(ty B:Nat)(v:Value)(n:Nat)(cs:List Value)(hown:w.ownsRow B e size v n cs)(ad:Option Addr)(m c:Nat)(cs':List Value)(hl:cs'.length=m*size)(hc:Bn w ad m cs')(h1:∀u∈cs',u.oneCell'=true)
 (hm:n+m<=4194304)(hby:(n+m)*bytes<=140737488355328)(hB:B<=w.heap.size):
 ∃a' c' w',(Builtin.append_ #[t,t] ty #[v,.slice ad m c]).run prog w= .ok (.slice a' (n+m) c') w'/\w'.ownsRow B e size (.slice a' (n+m) c') (n+m) (cs++cs')/\w.grownBy w' v.ownBlock/\
  ((Value.slice a' (n+m) c').ownBlock=v.ownBlock∨(Value.slice a' (n+m) c').ownBlock=some w):=by
 obtain⟨i0,hi,hz0,hz1,hz2⟩:=info_parts hI;have some':∀a:Addr,(∀j u,cs'[j]? =some u->w.cell? (a.add j)=some u)->∃a' c' w',(Builtin.append_ #[t,t] ty #[v,.slice (some a) m c]).run prog w= .ok (.slice a' (n+m) c') w'/\w'.ownsRow B e size (.slice a' (n+m) c') (n+m) (cs++cs')/\w.grownBy w' v.ownBlock/\
  ((Value.slice a' (n+m) c').ownBlock=v.ownBlock∨(Value.slice a' (n+m) c').ownBlock=some w):=fun a hnews=>by
  obtain⟨v',w',hr,h2,h3,_,h5⟩:=run_append_own_at (P:=prog) w B t ty e i0 _ size bytes hT hi hz0 hz1 hz2 hzs hsz v n cs hown a m c cs' hl hnews h1 (by unfold maxLen;omega) hby hB;obtain⟨a',c',rfl⟩:=CF h2;exact⟨a',c',w',hr,h2,h3,h5⟩
 by_cases h0:0<m
 ·obtain⟨b,off,rfl,_,hcc⟩:=hc h0;exact some' _ (fun j u hu=>by rw[add_plain];exact hcc j u hu)
 ·obtain rfl:m=0:=by omega
  have e0:cs'=[]:=List.eq_nil_of_length_eq_zero (by omega);subst e0;cases ad with
  |some a=>exact some' a (fun j u hu=>by simp at hu)
  |none=>
   obtain⟨a',c',rfl⟩:=CF hown;rw[List.append_nil];refine⟨a',c',w,?_,hown,⟨rfl,rfl,rfl,Nat.le_refl _,fun _ _ _=>rfl⟩,.inl rfl⟩;obtain⟨_,hx⟩:=hown;rcases hx with⟨hv,rfl⟩|⟨gb,cap,cur,hv,_,_,hnc,_⟩
   ·simp only[Value.slice.injEq]at hv;obtain⟨rfl,_,rfl⟩:=hv;simp[Builtin.append_,run_underlying hT,sizeOf,typeInfo,hi,Builtin.lenOf,Builtin.firstCells]
   ·simp only[Value.slice.injEq]at hv;obtain⟨rfl,_,rfl⟩:=hv;simp[Builtin.append_,run_underlying hT,sizeOf,typeInfo,hi,Builtin.lenOf,Builtin.firstCells,hnc,storeCells]
theorem Dg{o:Oper}{a:Act}{K:Act->World->Prop}{Q:Exit->Act->World->Prop}(w:World)(s x:Operand)
 (ho:o.op= .call {callee:= .builtin .append,args:=#[s,x],argTypes:=#[t,t]})
 (B:Nat)(v:Value)(n:Nat)(cs:List Value)(hs:a.eval s=v)(hown:w.ownsRow B e size v n cs)(ad:Option Addr)(m c:Nat)(cs':List Value)(hx:a.eval x= .slice ad m c)(hl:cs'.length=m*size)(hc:Bn w ad m cs')(h1:∀u∈cs',u.oneCell'=true)
 (hm:n+m<=4194304)(hby:(n+m)*bytes<=140737488355328)(hB:B<=w.heap.size)
 (h:∀a' c' w',w'.ownsRow B e size (.slice a' (n+m) c') (n+m) (cs++cs')->w.grownBy w' v.ownBlock->((Value.slice a' (n+m) c').ownBlock=v.ownBlock∨(Value.slice a' (n+m) c').ownBlock=some w)->K (a.put o.dst (.slice a' (n+m) c')) w'):o.wp prog a w K Q:=by
 obtain⟨a',c',w',hr,h2,h3,h4⟩:=Gr hT hI hzs hsz w o.type B v n cs hown ad m c cs' hl hc h1 hm hby hB;unfold Oper.wp execOp;simp only[ho,resolve,invoke,builtin,Sem.run_bind,Sem.run_pure,Result.andThen_ok,List.map_toArray,List.map_cons,List.map_nil,hs,hx,hr];exact h a' c' w' h2 h3 h4
end
def Ax(w:World)(B:Nat)(v:Value)(l:List Int):Prop:=w.ownsRow B 2 1 v l.length (l.map (Value.int .i64))
def Di(w:World)(ad:Option Addr)(l:List Int):Prop:=Bn w ad l.length (l.map (Value.int .i64))
theorem Di.below{w w':World}{ad:Option Addr}{l:List Int}(h:Di w ad l)(hb:Below w w w'):Di w' ad l:=Bn.below h hb
theorem Ax.lies{w:World}{B c:Nat}{a:Option Addr}{l:List Int}(h:Ax w B (.slice a l.length c) l):Di w a l:=Bn.own h
theorem Ax.nil(w:World)(B:Nat):Ax w B (.slice none 0 0) []:=World.ownsRow_nil _ _ _ _
theorem Ax.made(w:World)(B:Nat)(hb:B<=w.heap.size):Ax (w.alloc (.cells #[] 2)) B (.slice (some ⟨w,0,none⟩) 0 0) []:=World.ownsRow_made w #[] 0 hb (Nat.zero_le _) rfl
theorem Ax.alloc{w:World}{B:Nat}{v:Value}{l:List Int}(h:Ax w B v l)(o:Obj):Ax (w.alloc o) B v l:=World.ownsRow.alloc h o
def AM(l:List Int)(i:Nat):Int:=l.getD i 0
theorem Di.ints{w:World}{ad:Option Addr}{l:List Int}(h:Di w ad l):Be w ad l.length (AM l):=fun hn=>by
 obtain⟨b,off,e,hlt,hc⟩:=h hn;exact⟨b,off,e,hlt,fun i hi=>hc i _ (by simp[AM,hi])⟩
theorem Be.intL{w:World}{ad:Option Addr}{n:Nat}{h:Nat->Int}(hc:Be w ad n h):Di w ad ((List.range n).map h):=fun hn=>by
 have hn':0<n:=by simpa using hn
 obtain⟨b,off,e,hlt,hcc⟩:=hc hn';refine⟨b,off,e,hlt,fun j u hu=>?_⟩;by_cases hj:j<n
 ·simp[hj]at hu;rw[<-hu];exact hcc j hj
 ·simp[hj]at hu
theorem Dv{ops:Array Oper}{rest:List Oper}{o:Oper}{a:Act}{Q:Exit->Act->World->Prop}(w:World)(hgd:o.guard=none)(s x:Operand)
 (ho:o.op= .call {callee:= .builtin .append,args:=#[s,x],argTypes:=#[38,38]})
 (B:Nat)(v:Value)(l:List Int)(hs:a.eval s=v)(hown:Ax w B v l)(ad:Option Addr)(m c:Nat)(l':List Int)(hx:a.eval x= .slice ad m c)(hm':l'.length=m)(hc:Di w ad l')
 (hm:l.length+m<=4194304)(hB:B<=w.heap.size)
 (h:∀a' c' w',Ax w' B (.slice a' (l++l').length c') (l++l')->w.grownBy w' v.ownBlock->((Value.slice a' (l++l').length c').ownBlock=v.ownBlock∨(Value.slice a' (l++l').length c').ownBlock=some w)->wpList prog ops Q rest (a.put o.dst (.slice a' (l++l').length c')) w'):wpList prog ops Q (o::rest) a w:=by
 subst hm';refine wpList_plain hgd fun _ hK=>Dg underlying38 Tryz.info2 rfl (by omega) w s x ho B v l.length _ hs hown ad l'.length c _ hx (by simp) hc (fun u hu=>by obtain⟨y,_,rfl⟩:=List.mem_map.1 hu;rfl) hm (by omega) hB fun a' c' w' h2 h3 h4=>hK _ _ ?_;rw[<-List.map_append,<-List.length_append]at h2;rw[<-List.length_append]at h4 ⊢;exact h a' c' w' h2 h3 h4
theorem AO{ops:Array Oper}{rest:List Oper}{o:Oper}{a:Act}{Q:Exit->Act->World->Prop}(w:World)(hgd:o.guard=none)(s x:Operand)
 (ho:o.op= .call {callee:= .builtin .append,args:=#[s,x],argTypes:=#[38,38]})
 (B:Nat)(v:Value)(l:List Int)(hs:a.eval s=v)(hown:Ax w B v l)(ad:Option Addr)(m c:Nat)(l':List Int)(hx:a.eval x= .slice ad m c)(hm':l'.length=m)(hc:Di w ad l')(R:List Int)(hR:R=l++l')
 (hm:R.length<=4194304)(hB:B<=w.heap.size)
 (h:∀a' c' w',Ax w' B (.slice a' R.length c') R->w.grownBy w' v.ownBlock->((Value.slice a' R.length c').ownBlock=v.ownBlock∨(Value.slice a' R.length c').ownBlock=some w)->wpList prog ops Q rest (a.put o.dst (.slice a' R.length c')) w'):wpList prog ops Q (o::rest) a w:=by
 subst hR;exact Dv w hgd s x ho B v l hs hown ad m c l' hx hm' hc (by rw[List.length_append]at hm;omega) hB h
theorem Di.take{w:World}{b off:Nat}{l:List Int}(h:Di w (some ⟨b,off,none⟩) l)(k:Nat):Di w (some ⟨b,off,none⟩) (l.take k):=fun hn=>by
 have hl:0<l.length:=by simp at hn;omega
 obtain⟨b',off',e,hlt,hc⟩:=h hl;cases e;refine⟨b,off,rfl,hlt,fun j u hu=>hc j u ?_⟩;rw[List.map_take,List.getElem?_take]at hu;split at hu
 ·exact hu
 ·cases hu
theorem Di.drop{w:World}{b off:Nat}{l:List Int}(h:Di w (some ⟨b,off,none⟩) l)(k:Nat):Di w (some ⟨b,off+k,none⟩) (l.drop k):=fun hn=>by
 have hl:0<l.length:=by simp at hn;omega
 obtain⟨b',off',e,hlt,hc⟩:=h hl;cases e;refine⟨b,off+k,rfl,hlt,fun j u hu=>?_⟩;rw[List.map_drop,List.getElem?_drop]at hu;have:=hc (k+j) u hu;rw[Nat.add_assoc];exact this
theorem Di.one{w:World}(x:Int):Di (w.alloc (.cells #[.int .i64 x] 2)) (some ⟨w,0,none⟩) [x]:=fun _=>
 ⟨w,0,rfl,by simp,fun j u hu=>by
   cases j with
   |zero=>simp at hu;subst hu;simp
   |succ j=>simp at hu⟩
theorem Di.none(w:World)(ad:Option Addr):Di w ad []:=fun h=>by simp at h
def Ac.cs(v:Ac):List Value:=[.int .i64 v.id,.int .i64 v.b1,v.c1.val,.int .i64 v.b2,v.c2.val,v.own.val,.int .i64 v.made]
def BK(l:List Ac):List Value:=(l.map Ac.cs).flatten
theorem Tw(l:List Ac):(BK l).length=l.length*7:=by
 induction l with
 |nil=>rfl
 |cons x r ih=>simp[BK,Ac.cs]at *;omega
theorem NH(l r:List Ac):BK (l++r)=BK l++BK r:=by simp[BK]
theorem Ss{l:List Ac}:∀u∈BK l,u.oneCell'=true:=fun u hu=>by
 simp only[BK,List.mem_flatten,List.mem_map]at hu;obtain⟨_,⟨x,_,rfl⟩,h⟩:=hu;simp only[Ac.cs,List.mem_cons,List.not_mem_nil,or_false]at h;rcases h with rfl|rfl|rfl|rfl|rfl|rfl|rfl<;>rfl
theorem SJ{l:List Ac}:∀{i:Nat} (hi:i<l.length),(BK l)[i*7]? =some (.int .i64 (l[i]).id)/\(BK l)[i*7+1]? =some (.int .i64 (l[i]).b1)/\(BK l)[i*7+2]? =some ((l[i]).c1.val)/\(BK l)[i*7+3]? =some (.int .i64 (l[i]).b2)/\(BK l)[i*7+4]? =some ((l[i]).c2.val)/\(BK l)[i*7+5]? =some ((l[i]).own.val)/\(BK l)[i*7+6]? =some (.int .i64 (l[i]).made):=by
 induction l with
 |nil=>intro i hi;simp at hi
 |cons x r ih=>
  intro i hi;have e:BK (x::r)=Value.int .i64 x.id::Value.int .i64 x.b1::x.c1.val::Value.int .i64 x.b2::x.c2.val::x.own.val::Value.int .i64 x.made::BK r:=by simp[BK,Ac.cs]
  rw[e];cases i with
  |zero=>simp
  |succ i=>
   have h:=ih (i:=i) (by simpa using hi);have e1:(i+1)*7=i*7+1+1+1+1+1+1+1:=(by omega);rw[e1];simpa using h
def Dc(w:World)(B:Nat)(v:Value)(l:List Ac):Prop:=w.ownsRow B 68 7 v l.length (BK l)
def Ac.z:Ac:=⟨0,0,⟨none,0,0,fun _=>0,fun _=>0⟩,0,⟨none,0,0,fun _=>0,fun _=>0⟩,⟨none,0,0,fun _=>0⟩,0⟩
def AY(l:List Ac)(i:Nat):Ac:=l.getD i Ac.z
theorem Dc.nil(w:World)(B:Nat):Dc w B (.slice none 0 0) []:=World.ownsRow_nil _ _ _ _
theorem Dc.made(w:World)(B:Nat)(hb:B<=w.heap.size):Dc (w.alloc (.cells #[] 68)) B (.slice (some ⟨w.heap.size,0,none⟩) 0 0) []:=World.ownsRow_made w #[] 0 hb (Nat.zero_le _) rfl
theorem Dc.shape{w:World}{B:Nat}{v:Value}{l:List Ac}(h:Dc w B v l):∃a c,v= .slice a l.length c:=CF h
theorem Dc.grown{w w':World}{B:Nat}{row:Option Nat}{v:Value}{l:List Ac}(h:Dc w B v l)(hg:w.grownBy w' row)(hne:v.ownBlock=none∨v.ownBlock≠row):Dc w' B v l:=World.ownsRow.kept h hg hne
theorem Dc.below{w w':World}{B:Nat}{v:Value}{l:List Ac}(h:Dc w B v l)(hb:Below w.heap.size w w'):Dc w' B v l:=World.ownsRow.kept (row:=none) h ⟨hb.os,hb.tape,hb.output,hb.size,fun k hk _=>hb.block k hk⟩ (by cases v.ownBlock<;>simp)
theorem Dc.base{w:World}{B B':Nat}{v:Value}{l:List Ac}(h:Dc w B v l)(hB:B'<=B):Dc w B' v l:=by
 refine⟨h.1,?_⟩;rcases h.2 with hn|⟨g,cap,cur,hv,hbg,rest⟩
 ·exact .inl hn
 ·exact .inr ⟨g,cap,cur,hv,Nat.le_trans hB hbg,rest⟩
theorem Dc.lies{w:World}{B c:Nat}{a:Option Addr}{l:List Ac}(h:Dc w B (.slice a l.length c) l)(hat:∀x∈l,x.at w):Hn w a l.length (AY l):=fun hn=>by
 obtain⟨b,off,e,hlt,hc⟩:=Bn.own h hn;refine⟨b,off,e,hlt,fun i hi=>?_⟩;have g:=SJ hi;have e1:AY l i=l[i]:=by simp[AY,hi]
 rw[e1];exact⟨⟨by have:=hc _ _ (g.1);exact this,by have:=hc _ _ (g.2.1);rw[<-Nat.add_assoc]at this;exact this,by have:=hc _ _ (g.2.2.1);rw[<-Nat.add_assoc]at this;exact this,by have:=hc _ _ (g.2.2.2.1);rw[<-Nat.add_assoc]at this;exact this,by have:=hc _ _ (g.2.2.2.2.1);rw[<-Nat.add_assoc]at this;exact this,by have:=hc _ _ (g.2.2.2.2.2.1);rw[<-Nat.add_assoc]at this;exact this,by have:=hc _ _ (g.2.2.2.2.2.2);rw[<-Nat.add_assoc]at this;exact this⟩,hat _ (List.getElem_mem hi)⟩
theorem Dc.one(w:World)(x:Ac):Bn (w.alloc (.cells #[.int .i64 x.id,.int .i64 x.b1,x.c1.val,.int .i64 x.b2,x.c2.val,x.own.val,.int .i64 x.made] 68)) (some ⟨w.heap.size,0,none⟩) 1 (BK [x]):=fun _=>by
 refine⟨w.heap.size,0,rfl,by simp,fun j u hu=>?_⟩;have h:=Ah.new w (.cells #[.int .i64 x.id,.int .i64 x.b1,x.c1.val,.int .i64 x.b2,x.c2.val,x.own.val,.int .i64 x.made] 68);have e:BK [x]=[.int .i64 x.id,.int .i64 x.b1,x.c1.val,.int .i64 x.b2,x.c2.val,x.own.val,.int .i64 x.made]:=by simp[BK,Ac.cs]
 rw[e]at hu;rw[Nat.zero_add];refine h.c0 j ?_;rw[<-hu];simp only[List.getElem?_toArray]
theorem IF(w:World)(tt:TypeId)(B:Nat)(v:Value)(l:List Ac)(hown:Dc w B v l)(ad:Option Addr)(c:Nat)(x:Ac)(hc:Bn w ad 1 (BK [x]))(hn:l.length<=1048576)(hB:B<=w.heap.size):
 ∃a' c' w',(Builtin.append_ #[24,24] tt #[v,.slice ad 1 c]).run prog w= .ok (.slice a' (l.length+1) c') w'/\Dc w' B (.slice a' (l.length+1) c') (l++[x])/\w.grownBy w' v.ownBlock:=by
 obtain⟨a',c',w',h1,h2,h3,_⟩:=Gr underlying24 Tryz.info68 rfl (by omega) w tt B v l.length (BK l) hown ad 1 c (BK [x]) (Tw [x]) hc Ss (by omega) (by omega) hB;refine⟨a',c',w',h1,?_,h3⟩;unfold Dc;rw[List.length_append,NH];exact h2
theorem JC{ops:Array Oper}{rest:List Oper}{oo:Oper}{a:Act}{Q:Exit->Act->World->Prop}(w:World)(hgd:oo.guard=none)(s x:Operand)
 (ho:oo.op= .call {callee:= .builtin .append,args:=#[s,x],argTypes:=#[24,24]})
 (B:Nat)(v:Value)(l:List Ac)(hs:a.eval s=v)(hown:Dc w B v l)(ad:Option Addr)(c:Nat)(y:Ac)(hx:a.eval x= .slice ad 1 c)(hc:Bn w ad 1 (BK [y]))(hn:l.length<=1048576)(hB:B<=w.heap.size)
 (h:∀a' c' w',Dc w' B (.slice a' (l.length+1) c') (l++[y])->w.grownBy w' v.ownBlock->wpList prog ops Q rest (a.put oo.dst (.slice a' (l.length+1) c')) w'):wpList prog ops Q (oo::rest) a w:=by
 refine wpList_plain hgd fun K hK=>?_;obtain⟨a',c',w',hr,h2,h3⟩:=IF w oo.type B v l hown ad c y hc hn hB;unfold Oper.wp execOp;simp only[ho,resolve,invoke,builtin,Sem.run_bind,Sem.run_pure,Result.andThen_ok,List.map_toArray,List.map_cons,List.map_nil,hs,hx,hr];exact hK _ _ (h a' c' w' h2 h3)
theorem Hv{ops:Array Oper}{oo:Oper}{a:Act}{w:World}{K:Act->World->Prop}{Q:Exit->Act->World->Prop}{E:Prop}(hgd:oo.guard=none)(s x:Operand)
 (ho:oo.op= .call {callee:= .builtin .append,args:=#[s,x],argTypes:=#[24,24]})
 (B:Nat)(v:Value)(l:List Ac)(hs:a.eval s=v)(hown:Dc w B v l)(ad:Option Addr)(c:Nat)(y:Ac)(hx:a.eval x= .slice ad 1 c)(hc:Bn w ad 1 (BK [y]))(hn:l.length<=1048576)(hB:B<=w.heap.size)
 (h:∀a' c' w',Dc w' B (.slice a' (l.length+1) c') (l++[y])->w.grownBy w' v.ownBlock->K (a.put oo.dst (.slice a' (l.length+1) c')) w'):
 if Region.wanted oo (yielded ops a.tmps)=true then Oper.wp prog oo a w K Q else E:=by
 have hw:Region.wanted oo (yielded ops a.tmps)=true:=by simp[Region.wanted,hgd]
 rw[if_pos hw];obtain⟨a',c',w',hr,h2,h3⟩:=IF w oo.type B v l hown ad c y hc hn hB;unfold Oper.wp execOp;simp only[ho,resolve,invoke,builtin,Sem.run_bind,Sem.run_pure,Result.andThen_ok,List.map_toArray,List.map_cons,List.map_nil,hs,hx,hr];exact h a' c' w' h2 h3
def Ab.cs(v:Ab):List Value:=[.int .i64 v.id,.int .i64 v.kind,.int .i64 v.up,.int .i64 v.b1,v.c1.val,.string v.data,v.items.val,v.own.val,.int .i64 v.b2,v.c2.val]
def AJ(l:List Ab):List Value:=(l.map Ab.cs).flatten
theorem Sb(l:List Ab):(AJ l).length=l.length*10:=by
 induction l with
 |nil=>rfl
 |cons x r ih=>simp[AJ,Ab.cs]at *;omega
theorem Mw(l r:List Ab):AJ (l++r)=AJ l++AJ r:=by simp[AJ]
theorem QA{l:List Ab}:∀u∈AJ l,u.oneCell'=true:=fun u hu=>by
 simp only[AJ,List.mem_flatten,List.mem_map]at hu;obtain⟨_,⟨x,_,rfl⟩,h⟩:=hu;simp only[Ab.cs,List.mem_cons,List.not_mem_nil,or_false]at h;rcases h with rfl|rfl|rfl|rfl|rfl|rfl|rfl|rfl|rfl|rfl<;>rfl
theorem Le{l:List Ab}:∀{i:Nat} (hi:i<l.length),(AJ l)[i*10]? =some (.int .i64 (l[i]).id)/\(AJ l)[i*10+1]? =some (.int .i64 (l[i]).kind)/\(AJ l)[i*10+2]? =some (.int .i64 (l[i]).up)/\(AJ l)[i*10+3]? =some (.int .i64 (l[i]).b1)/\(AJ l)[i*10+4]? =some ((l[i]).c1.val)/\(AJ l)[i*10+5]? =some (.string (l[i]).data)/\(AJ l)[i*10+6]? =some ((l[i]).items.val)/\(AJ l)[i*10+7]? =some ((l[i]).own.val)/\(AJ l)[i*10+8]? =some (.int .i64 (l[i]).b2)/\(AJ l)[i*10+9]? =some ((l[i]).c2.val):=by
 induction l with
 |nil=>intro i hi;simp at hi
 |cons x r ih=>
  intro i hi;have e:AJ (x::r)=Value.int .i64 x.id::Value.int .i64 x.kind::Value.int .i64 x.up::Value.int .i64 x.b1::x.c1.val::Value.string x.data::x.items.val::x.own.val::Value.int .i64 x.b2::x.c2.val::AJ r:=by simp[AJ,Ab.cs]
  rw[e];cases i with
  |zero=>simp
  |succ i=>
   have h:=ih (i:=i) (by simpa using hi);have e1:(i+1)*10=i*10+1+1+1+1+1+1+1+1+1+1:=(by omega);rw[e1];simpa using h
def Ba(w:World)(B:Nat)(v:Value)(l:List Ab):Prop:=w.ownsRow B 40 10 v l.length (AJ l)
def Ab.z:Ab:=⟨0,0,0,0,⟨none,0,0,fun _=>0,fun _=>0⟩,⟨#[]⟩,⟨none,0,0,fun _=>⟨#[]⟩⟩,⟨none,0,0,fun _=>0⟩,0,⟨none,0,0,fun _=>0,fun _=>0⟩⟩
def Aa(l:List Ab)(i:Nat):Ab:=l.getD i Ab.z
theorem Ba.nil(w:World)(B:Nat):Ba w B (.slice none 0 0) []:=World.ownsRow_nil _ _ _ _
theorem Ba.made(w:World)(B:Nat)(hb:B<=w.heap.size):Ba (w.alloc (.cells #[] 40)) B (.slice (some ⟨w.heap.size,0,none⟩) 0 0) []:=World.ownsRow_made w #[] 0 hb (Nat.zero_le _) rfl
theorem Ba.shape{w:World}{B:Nat}{v:Value}{l:List Ab}(h:Ba w B v l):∃a c,v= .slice a l.length c:=CF h
theorem Ba.grown{w w':World}{B:Nat}{row:Option Nat}{v:Value}{l:List Ab}(h:Ba w B v l)(hg:w.grownBy w' row)(hne:v.ownBlock=none∨v.ownBlock≠row):Ba w' B v l:=World.ownsRow.kept h hg hne
theorem Ba.below{w w':World}{B:Nat}{v:Value}{l:List Ab}(h:Ba w B v l)(hb:Below w.heap.size w w'):Ba w' B v l:=World.ownsRow.kept (row:=none) h ⟨hb.os,hb.tape,hb.output,hb.size,fun k hk _=>hb.block k hk⟩ (by cases v.ownBlock<;>simp)
theorem Ba.base{w:World}{B B':Nat}{v:Value}{l:List Ab}(h:Ba w B v l)(hB:B'<=B):Ba w B' v l:=by
 refine⟨h.1,?_⟩;rcases h.2 with hn|⟨g,cap,cur,hv,hbg,rest⟩
 ·exact .inl hn
 ·exact .inr ⟨g,cap,cur,hv,Nat.le_trans hB hbg,rest⟩
theorem Ba.lies{w:World}{B c:Nat}{a:Option Addr}{l:List Ab}(h:Ba w B (.slice a l.length c) l)(hat:∀x∈l,x.at w):GP w a l.length (Aa l):=fun hn=>by
 obtain⟨b,off,e,hlt,hc⟩:=Bn.own h hn;refine⟨b,off,e,hlt,fun i hi=>?_⟩;have g:=Le hi;have e1:Aa l i=l[i]:=by simp[Aa,hi]
 rw[e1];exact⟨⟨by have:=hc _ _ (g.1);exact this,by have:=hc _ _ (g.2.1);rw[<-Nat.add_assoc]at this;exact this,by have:=hc _ _ (g.2.2.1);rw[<-Nat.add_assoc]at this;exact this,by have:=hc _ _ (g.2.2.2.1);rw[<-Nat.add_assoc]at this;exact this,by have:=hc _ _ (g.2.2.2.2.1);rw[<-Nat.add_assoc]at this;exact this,by have:=hc _ _ (g.2.2.2.2.2.1);rw[<-Nat.add_assoc]at this;exact this,by have:=hc _ _ (g.2.2.2.2.2.2.1);rw[<-Nat.add_assoc]at this;exact this,by have:=hc _ _ (g.2.2.2.2.2.2.2.1);rw[<-Nat.add_assoc]at this;exact this,by have:=hc _ _ (g.2.2.2.2.2.2.2.2.1);rw[<-Nat.add_assoc]at this;exact this,by have:=hc _ _ (g.2.2.2.2.2.2.2.2.2);rw[<-Nat.add_assoc]at this;exact this⟩,hat _ (List.getElem_mem hi)⟩
theorem Ba.one(w:World)(x:Ab):Bn (w.alloc (.cells #[.int .i64 x.id,.int .i64 x.kind,.int .i64 x.up,.int .i64 x.b1,x.c1.val,.string x.data,x.items.val,x.own.val,.int .i64 x.b2,x.c2.val] 40)) (some ⟨w.heap.size,0,none⟩) 1 (AJ [x]):=fun _=>by
 refine⟨w.heap.size,0,rfl,by simp,fun j u hu=>?_⟩;have h:=Ah.new w (.cells #[.int .i64 x.id,.int .i64 x.kind,.int .i64 x.up,.int .i64 x.b1,x.c1.val,.string x.data,x.items.val,x.own.val,.int .i64 x.b2,x.c2.val] 40);have e:AJ [x]=[.int .i64 x.id,.int .i64 x.kind,.int .i64 x.up,.int .i64 x.b1,x.c1.val,.string x.data,x.items.val,x.own.val,.int .i64 x.b2,x.c2.val]:=by simp[AJ,Ab.cs]
 rw[e]at hu;rw[Nat.zero_add];refine h.c0 j ?_;rw[<-hu];simp only[List.getElem?_toArray]
theorem Hz(w:World)(tt:TypeId)(B:Nat)(v:Value)(l:List Ab)(hown:Ba w B v l)(ad:Option Addr)(c:Nat)(x:Ab)(hc:Bn w ad 1 (AJ [x]))(hn:l.length<=1048576)(hB:B<=w.heap.size):
 ∃a' c' w',(Builtin.append_ #[25,25] tt #[v,.slice ad 1 c]).run prog w= .ok (.slice a' (l.length+1) c') w'/\Ba w' B (.slice a' (l.length+1) c') (l++[x])/\w.grownBy w' v.ownBlock:=by
 obtain⟨a',c',w',h1,h2,h3,_⟩:=Gr underlying25 Tryz.info40 rfl (by omega) w tt B v l.length (AJ l) hown ad 1 c (AJ [x]) (Sb [x]) hc QA (by omega) (by omega) hB;refine⟨a',c',w',h1,?_,h3⟩;unfold Ba;rw[List.length_append,Mw];exact h2
theorem Cm{ops:Array Oper}{rest:List Oper}{oo:Oper}{a:Act}{Q:Exit->Act->World->Prop}(w:World)(hgd:oo.guard=none)(s x:Operand)
 (ho:oo.op= .call {callee:= .builtin .append,args:=#[s,x],argTypes:=#[25,25]})
 (B:Nat)(v:Value)(l:List Ab)(hs:a.eval s=v)(hown:Ba w B v l)(ad:Option Addr)(c:Nat)(y:Ab)(hx:a.eval x= .slice ad 1 c)(hc:Bn w ad 1 (AJ [y]))(hn:l.length<=1048576)(hB:B<=w.heap.size)
 (h:∀a' c' w',Ba w' B (.slice a' (l.length+1) c') (l++[y])->w.grownBy w' v.ownBlock->wpList prog ops Q rest (a.put oo.dst (.slice a' (l.length+1) c')) w'):wpList prog ops Q (oo::rest) a w:=by
 refine wpList_plain hgd fun K hK=>?_;obtain⟨a',c',w',hr,h2,h3⟩:=Hz w oo.type B v l hown ad c y hc hn hB;unfold Oper.wp execOp;simp only[ho,resolve,invoke,builtin,Sem.run_bind,Sem.run_pure,Result.andThen_ok,List.map_toArray,List.map_cons,List.map_nil,hs,hx,hr];exact hK _ _ (h a' c' w' h2 h3)
theorem G5{ops:Array Oper}{oo:Oper}{a:Act}{w:World}{K:Act->World->Prop}{Q:Exit->Act->World->Prop}{E:Prop}(hgd:oo.guard=none)(s x:Operand)
 (ho:oo.op= .call {callee:= .builtin .append,args:=#[s,x],argTypes:=#[25,25]})
 (B:Nat)(v:Value)(l:List Ab)(hs:a.eval s=v)(hown:Ba w B v l)(ad:Option Addr)(c:Nat)(y:Ab)(hx:a.eval x= .slice ad 1 c)(hc:Bn w ad 1 (AJ [y]))(hn:l.length<=1048576)(hB:B<=w.heap.size)
 (h:∀a' c' w',Ba w' B (.slice a' (l.length+1) c') (l++[y])->w.grownBy w' v.ownBlock->K (a.put oo.dst (.slice a' (l.length+1) c')) w'):
 if Region.wanted oo (yielded ops a.tmps)=true then Oper.wp prog oo a w K Q else E:=by
 have hw:Region.wanted oo (yielded ops a.tmps)=true:=by simp[Region.wanted,hgd]
 rw[if_pos hw];obtain⟨a',c',w',hr,h2,h3⟩:=Hz w oo.type B v l hown ad c y hc hn hB;unfold Oper.wp execOp;simp only[ho,resolve,invoke,builtin,Sem.run_bind,Sem.run_pure,Result.andThen_ok,List.map_toArray,List.map_cons,List.map_nil,hs,hx,hr];exact h a' c' w' h2 h3
theorem As.row.at{w:World}{c:As}(h:c.row w)(hs:c.small):c.at w:=by
 obtain⟨b,e,hr⟩:=h;refine⟨by unfold maxLen;have:=hs.1;omega,fun _=>⟨b,0,e,hr.lt,fun i hi=>?_⟩,fun i hi=>by unfold maxLen;have:=hs.2 i hi;omega⟩;rw[Nat.zero_add];exact hr.cell hi
theorem Ab.row.at{w:World}{t:Ab}(h:t.row w)(hs:t.small):t.at w:=by
 obtain⟨⟨b1,e1,r1⟩,r2,⟨b3,e3,r3⟩,⟨b4,e4,r4⟩⟩:=h;obtain⟨s1,s2,s3,s4,s5⟩:=hs;refine⟨⟨by unfold maxLen;omega,?_⟩,As.row.at r2 s3,⟨by unfold maxLen;omega,?_⟩,⟨by unfold maxLen;omega,?_⟩,by unfold maxLen;omega⟩
 ·rw[e1];exact AL.row r1
 ·rw[e3];exact Be.row r3
 ·rw[e4];exact AL.row r4
theorem Ac.same.small{t u:Ac}(h:t.same u)(hs:t.small):u.small:=by
 obtain⟨_,_,⟨e1,_⟩,_,⟨e2,_⟩,⟨e3,_⟩,_⟩:=h;unfold Ac.small at *;rw[e1,e2,e3];exact hs
theorem Ab.same.small{t u:Ab}(h:t.same u)(hs:t.small):u.small:=by
 obtain⟨_,_,_,_,⟨e1,_⟩,e2,⟨e3,e4⟩,⟨e5,_⟩,_,⟨e6,_⟩⟩:=h;unfold Ab.small As.small at *;rw[e1,e2,e3,e4,e5,e6];exact hs
theorem Aq.same.small{k l:Aq}(h:k.same l)(hs:k.small):l.small:=by
 obtain⟨e1,h1,e2,h2⟩:=h;obtain⟨⟨n1,s1⟩,⟨n2,s2⟩⟩:=hs;unfold Aq.small;rw[e1,e2];exact⟨⟨n1,fun i hi=>Ac.same.small (h1 i hi) (s1 i hi)⟩,⟨n2,fun i hi=>Ab.same.small (h2 i hi) (s2 i hi)⟩⟩
theorem aE.cells{w:World}{b ty N:Nat}{G:Nat->Value}{o:Nat}{t:Ab}(hr:w.rowIs b ty N G)(h:aE G o t)(ho:o+10<=N):Cz w b o t:=
 ⟨(hr.cell (by omega)).trans (congrArg some h.g0),(hr.cell (by omega)).trans (congrArg some h.g1),(hr.cell (by omega)).trans (congrArg some h.g2),(hr.cell (by omega)).trans (congrArg some h.g3),(hr.cell (by omega)).trans (congrArg some h.g4),(hr.cell (by omega)).trans (congrArg some h.g5),(hr.cell (by omega)).trans (congrArg some h.g6),(hr.cell (by omega)).trans (congrArg some h.g7),(hr.cell (by omega)).trans (congrArg some h.g8),(hr.cell (by omega)).trans (congrArg some h.g9)⟩
theorem GO.at{w:World}{a:Option Addr}{n:Nat}{T:Nat->Ac}(h:GO w a n T)(hs:∀i,i<n->(T i).small):Hn w a n T:=fun _=>by
 obtain⟨b,G,e,hr,hj⟩:=h;refine⟨b,0,e,hr.lt,fun i hi=>⟨?_,Ac.row.at (hj i hi).2 (hs i hi)⟩⟩;rw[Nat.zero_add];exact G7.cells hr (hj i hi).1 (by omega)
theorem GX.at{w:World}{a:Option Addr}{n:Nat}{T:Nat->Ab}(h:GX w a n T)(hs:∀i,i<n->(T i).small):GP w a n T:=fun _=>by
 obtain⟨b,G,e,hr,hj⟩:=h;refine⟨b,0,e,hr.lt,fun i hi=>⟨?_,Ab.row.at (hj i hi).2 (hs i hi)⟩⟩;rw[Nat.zero_add];exact aE.cells hr (hj i hi).1 (by omega)
theorem Aq.row.at{w:World}{k:Aq}(h:k.row w)(hs:k.small):k.at w:=
 ⟨by unfold maxLen;have:=hs.1.1;omega,by unfold maxLen;have:=hs.2.1;omega,GO.at h.1 hs.1.2,GX.at h.2 hs.2.2⟩

end Go.Proofs.YtphddbnadcjhgaaGreatDoor
