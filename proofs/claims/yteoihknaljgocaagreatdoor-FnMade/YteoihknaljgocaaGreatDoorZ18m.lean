import Derived.Test.YteoihknaljgocaaGreatDoorZ17m
set_option maxRecDepth 100000
set_option maxHeartbeats 8000000
namespace Go.Proofs.YteoihknaljgocaaGreatDoor
open Go Go.RowKit Go.Deep Go.Maps
variable {X:Ae}{s:Al}{lt lt':List Ae}{lo lo':List Ab}{t u:Nat}{c:Int}{tx:ByteArray}
def Ar.nm(c:Ar):Ar:=⟨none,c.n,0,c.f,c.g⟩
def AJ.nm(c:AJ):AJ:=⟨none,c.n,0,c.h⟩
def AH.nm(c:AH):AH:=⟨none,c.n,0,c.f⟩
def Ae.nm(x:Ae):Ae:=⟨x.id,x.b1,x.c1.nm,x.b2,x.c2.nm,x.own.nm,x.made⟩
def Ab.nm(x:Ab):Ab:=⟨x.id,x.kind,x.up,x.b1,x.c1.nm,x.data,x.jA.nm,x.own.nm,x.b2,x.c2.nm⟩
def Ar.eqv(c d:Ar):Prop:=d.n=c.n/\∀i,i<c.n->d.f i=c.f i/\d.g i=c.g i
def AJ.eqv(c d:AJ):Prop:=d.n=c.n/\∀i,i<c.n->d.h i=c.h i
def AH.eqv(c d:AH):Prop:=d.n=c.n/\∀i,i<c.n->d.f i=c.f i
def Ae.eqv(x y:Ae):Prop:=y.id=x.id/\y.b1=x.b1/\x.c1.eqv y.c1/\y.b2=x.b2/\x.c2.eqv y.c2/\x.own.eqv y.own/\y.made=x.made
def Ab.eqv(x y:Ab):Prop:=y.id=x.id/\y.kind=x.kind/\y.up=x.up/\y.b1=x.b1/\x.c1.eqv y.c1/\y.data=x.data/\x.jA.eqv y.jA/\x.own.eqv y.own/\y.b2=x.b2/\x.c2.eqv y.c2
theorem Ae.eqv.refl(x:Ae):x.eqv x:=⟨rfl,rfl,⟨rfl,fun _ _=>⟨rfl,rfl⟩⟩,rfl,⟨rfl,fun _ _=>⟨rfl,rfl⟩⟩,⟨rfl,fun _ _=>rfl⟩,rfl⟩
theorem Ab.eqv.refl(x:Ab):x.eqv x:=⟨rfl,rfl,rfl,rfl,⟨rfl,fun _ _=>⟨rfl,rfl⟩⟩,rfl,⟨rfl,fun _ _=>rfl⟩,⟨rfl,fun _ _=>rfl⟩,rfl,⟨rfl,fun _ _=>⟨rfl,rfl⟩⟩⟩
def Tf(l m:List Ae):Prop:=m.length=l.length/\∀j,j<l.length->(Ao l j).eqv (Ao m j)
def RE(l m:List Ab):Prop:=m.length=l.length/\∀j,j<l.length->(Aa l j).eqv (Aa m j)
theorem Tf.refl(l:List Ae):Tf l l:=⟨rfl,fun _ _=> .refl _⟩
theorem RE.refl(l:List Ab):RE l l:=⟨rfl,fun _ _=> .refl _⟩
theorem It(lo:List Ab)(i:Nat):Aa (lo.map Ab.nm) i=(Aa lo i).nm:=by
 unfold Aa;rw[List.getD_eq_getElem?_getD,List.getD_eq_getElem?_getD,List.getElem?_map];cases lo[i]?<;>rfl
theorem YL(lt:List Ae)(i:Nat):Ao (lt.map Ae.nm) i=(Ao lt i).nm:=by
 unfold Ao;rw[List.getD_eq_getElem?_getD,List.getD_eq_getElem?_getD,List.getElem?_map];cases lt[i]?<;>rfl
theorem Ky(lo:List Ab)(x:Int):Gl (lo.map Ab.nm) x=Gl lo x:=by
 unfold Gl;rw[List.length_map];congr 1;funext i;rw[It];rfl
theorem Tb(lt:List Ae)(x:Int):Qn (lt.map Ae.nm) x=Qn lt x:=by
 unfold Qn;rw[List.length_map];congr 1;funext i;rw[YL];rfl
theorem Cq(X:Ae)(lo:List Ab)(x k:Int):Cc X.nm (lo.map Ab.nm) x k=Cc X lo x k:=by
 unfold Cc;rw[Ky];cases Gl lo x with
 |none=>rfl
 |some u=>simp only;rw[It];rfl
theorem ZC(o:Ab):∀lo:List Ab,(Bn o lo).map Ab.nm=Bn o.nm (lo.map Ab.nm)
 |[]=>rfl
 |x::r=>by
  have ih:=ZC o r;by_cases h:o.id<x.id
  ·have a:Bn o (x::r)=o::x::r:=(by simp[Bn,h]);have b:Bn o.nm ((x::r).map Ab.nm)=o.nm::x.nm::r.map Ab.nm:=by
    show(if o.nm.id<x.nm.id then _ else _)=_;rw[if_pos (show o.nm.id<x.nm.id from h)]
   rw[a,b];rfl
  ·have a:Bn o (x::r)=x::Bn o r:=(by simp[Bn,h]);have b:Bn o.nm ((x::r).map Ab.nm)=x.nm::Bn o.nm (r.map Ab.nm):=by
    show(if o.nm.id<x.nm.id then _ else _)=_;rw[if_neg (show ¬o.nm.id<x.nm.id from h)]
   rw[a,b,<-ih];rfl
theorem ZK(lo:List Ab)(u:Nat):B9 (lo.map Ab.nm) u=B9 lo u:=by
 unfold B9;have e1:(fun i=>(Aa (lo.map Ab.nm) i).id)=fun i=>(Aa lo i).id:=by funext i;rw[It];rfl
 have e2:(fun i=>(Aa (lo.map Ab.nm) i).up)=fun i=>(Aa lo i).up:=by funext i;rw[It];rfl
 rw[e1,e2,List.length_map]
theorem aL(G:List Int)(lo:List Ab)(j:Nat):(Eo G lo j).map Ab.nm=Eo G (lo.map Ab.nm) j:=by
 unfold Eo;rw[<-List.map_take,List.filter_map];rfl
theorem bJ(lo:List Ab)(x:Int)(n:Nat):IW (Aa (lo.map Ab.nm)) x n=IW (Aa lo) x n:=by
 unfold IW;have e1:(fun i=>(Aa (lo.map Ab.nm) i).id)=fun i=>(Aa lo i).id:=by funext i;rw[It];rfl
 have e2:(fun j=>(Aa (lo.map Ab.nm) j).up==x)=fun j=>(Aa lo j).up==x:=by funext i;rw[It];rfl
 rw[e1,e2]
theorem Tu(X:Ae)(s:Al)(lo:List Ab):FU X.nm s (lo.map Ab.nm)=FU X s lo:=by
 unfold FU;rw[Ky];cases Gl lo s.id with
 |none=>rfl
 |some u=>simp only;rw[It];rfl
theorem Yg(X:Ae)(lo:List Ab)(x:Int):Im X.nm (lo.map Ab.nm) x=Im X lo x:=by
 unfold Im;rw[Ky];cases Gl lo x with
 |none=>rfl
 |some u=>
  simp only;rw[It];show(decide (0<u)&&match Gl (lo.map Ab.nm) (Aa lo u).up with|some p=>_|none=>false)=_;rw[Ky];cases Gl lo (Aa lo u).up with
  |none=>rfl
  |some p=>simp only;rw[It];rfl
theorem XU(h:FA X s lt lo t c tx lt' lo'):FA X.nm s (lt.map Ae.nm) (lo.map Ab.nm) t c tx (lt'.map Ae.nm) (lo'.map Ab.nm):=by
 cases h with
 |k1 h x e1 e2 p=>
  refine .k1 h x.nm (by rw[e1,List.map_set]) (by rw[e2]) ?_;rcases p with⟨a,b,rfl,d⟩|⟨a,b,d,a1,cc,rfl⟩
  ·exact .inl ⟨a,b,rfl,d⟩
  ·exact .inr ⟨a,b,d,none,0,rfl⟩
 |k12 h x e1 e2 e3 p=>
  refine .k12 h x.nm (by rw[e1,List.map_set]) (by rw[e2]) e3 ?_;rcases p with⟨a,b,rfl⟩|⟨a,b,d,e,rfl⟩
  ·exact .inl ⟨a,b,rfl⟩
  ·exact .inr ⟨a,b,d.nm,e,rfl⟩
 |k14 h x e1 e2 e3 p=>
  refine .k14 h x.nm (by rw[e1,List.map_set]) (by rw[e2]) e3 ?_;rcases p with⟨a,b,rfl⟩|⟨a,b,a1,cc,rfl⟩
  ·exact .inl ⟨a,b,rfl⟩
  ·exact .inr ⟨a,b,none,0,rfl⟩
 |make h p=>
  refine .make h ?_;rcases p with⟨a,b,d,rfl,rfl⟩|⟨a,b,d,e,rfl,rfl⟩|⟨a,b,d,e,rfl,d1,d2,ow,s1,s2,s3,rfl⟩
  ·exact .inl ⟨a,by rw[Tu];exact b,d,rfl,rfl⟩
  ·exact .inr (.inl ⟨a,by rw[Tu];exact b,d,e,rfl,rfl⟩)
  ·refine .inr (.inr ⟨a,by rw[Tu];exact b,d,e,by rw[List.map_set];rfl,d1.nm,d2.nm,ow.nm,s1,?_,?_,by rw[ZC];rfl⟩)
   ·by_cases h5:s.kind=5
    ·rw[if_pos h5]at s2 ⊢;exact s2
    ·rw[if_neg h5]at s2 ⊢;rw[s2];rfl
   ·by_cases h5:0<s.cat
    ·rw[if_pos h5]at s3 ⊢;exact s3
    ·rw[if_neg h5]at s3 ⊢;rw[s3];rfl
 |drop h e1 e3 p=>
  refine .drop h (by rw[e1]) e3 ?_;rcases p with⟨a,b,rfl⟩|⟨a,b,u,d,e,rfl⟩
  ·exact .inl ⟨a,by rw[Yg];exact b,rfl⟩
  ·exact .inr ⟨a,by rw[Yg];exact b,u,by rw[Ky];exact d,e,by rw[aL,ZK,List.length_map]⟩
 |k6 h p=>
  refine .k6 h ?_;rcases p with⟨a,b,d,rfl,rfl⟩|⟨u,a,⟨b,d,e,rfl,rfl⟩|⟨b,d,e,rfl,rfl⟩⟩
  ·exact .inl ⟨by rw[Cq];exact a,b,d,rfl,rfl⟩
  ·exact .inr ⟨u,by rw[Cq];exact a,.inl ⟨by rw[It];exact b,d,e,rfl,rfl⟩⟩
  ·exact .inr ⟨u,by rw[Cq];exact a,.inr ⟨by rw[It];exact b,d,e,rfl,by rw[List.map_set,It];rfl⟩⟩
 |k7 h p=>
  refine .k7 h ?_;rcases p with⟨a,b,d,rfl,rfl⟩|⟨u,a,b,d,rfl,rfl⟩
  ·exact .inl ⟨by rw[Cq];exact a,b,d,rfl,rfl⟩
  ·exact .inr ⟨u,by rw[Cq];exact a,b,by rw[It];exact d,rfl,rfl⟩
 |k8 h p=>
  refine .k8 h ?_;rcases p with⟨a,b,d,rfl,rfl⟩|⟨u,a,⟨b,d,e,rfl,rfl⟩|⟨p,b,⟨d,e,f,rfl,rfl⟩|⟨d,e,f,g,rfl,rfl⟩⟩⟩
  ·exact .inl ⟨by rw[Cq];exact a,b,d,rfl,rfl⟩
  ·exact .inr ⟨u,by rw[Cq];exact a,.inl ⟨by rw[Ky];exact b,d,e,rfl,rfl⟩⟩
  ·exact .inr ⟨u,by rw[Cq];exact a,.inr ⟨p,by rw[Ky];exact b,.inl ⟨by rw[It];exact d,e,f,rfl,rfl⟩⟩⟩
  ·exact .inr ⟨u,by rw[Cq];exact a,.inr ⟨p,by rw[Ky];exact b,.inr ⟨by rw[It];exact d,by rw[It];exact e,f,g,rfl,by rw[List.map_set,It,It];rfl⟩⟩⟩
 |k9 h p=>
  refine .k9 h ?_;rcases p with⟨a,b,d,rfl,rfl⟩|⟨u,a,⟨b,d,e,rfl,rfl⟩|⟨b,d,e,f,rfl,rfl⟩|⟨b,d,e,f,rfl,a1,c1,rfl⟩⟩
  ·exact .inl ⟨by rw[Cq];exact a,b,d,rfl,rfl⟩
  ·exact .inr ⟨u,by rw[Cq];exact a,.inl ⟨by rw[It];exact b,d,e,rfl,rfl⟩⟩
  ·exact .inr ⟨u,by rw[Cq];exact a,.inr (.inl ⟨by rw[It];exact b,by rw[It];exact d,e,f,rfl,rfl⟩)⟩
  ·exact .inr ⟨u,by rw[Cq];exact a,.inr (.inr ⟨by rw[It];exact b,by rw[It];exact d,e,f,rfl,none,0,by rw[List.map_set,It];rfl⟩)⟩
 |k10 h p=>
  refine .k10 h ?_;rcases p with⟨a,b,d,rfl,rfl⟩|⟨u,a,⟨b,d,e,rfl,rfl⟩|⟨b,d,e,f,rfl,rfl⟩|⟨b,d,e,f,rfl,a1,c1,rfl⟩⟩
  ·exact .inl ⟨by rw[Cq];exact a,b,d,rfl,rfl⟩
  ·exact .inr ⟨u,by rw[Cq];exact a,.inl ⟨by rw[It];exact b,d,e,rfl,rfl⟩⟩
  ·exact .inr ⟨u,by rw[Cq];exact a,.inr (.inl ⟨by rw[It];exact b,by rw[It];exact d,e,f,rfl,rfl⟩)⟩
  ·exact .inr ⟨u,by rw[Cq];exact a,.inr (.inr ⟨by rw[It];exact b,by rw[It];exact d,e,by rw[It];exact f,rfl,none,0,by rw[List.map_set,It];rfl⟩)⟩
 |k13 h p=>
  refine .k13 h ?_;rcases p with⟨a,b,d,rfl,rfl⟩|⟨u,a,⟨b,d,e,rfl,rfl⟩|⟨b,d,e,f,rfl,rfl⟩|⟨b,d,e,f,a1,c1,rfl,rfl⟩⟩
  ·exact .inl ⟨by rw[Cq];exact a,b,d,rfl,rfl⟩
  ·exact .inr ⟨u,by rw[Cq];exact a,.inl ⟨by rw[It];exact b,d,e,rfl,rfl⟩⟩
  ·exact .inr ⟨u,by rw[Cq];exact a,.inr (.inl ⟨by rw[It];exact b,by rw[It];exact d,e,f,rfl,rfl⟩)⟩
  ·exact .inr ⟨u,by rw[Cq];exact a,.inr (.inr ⟨by rw[It];exact b,by rw[It];exact d,e,f,none,0,by rw[List.map_set,It];rfl,rfl⟩)⟩
 |k15 h p=>
  refine .k15 h ?_;rcases p with⟨a,b,d,rfl,rfl⟩|⟨u,a,b,d,rfl,rfl⟩
  ·exact .inl ⟨by rw[Cq];exact a,b,d,rfl,rfl⟩
  ·exact .inr ⟨u,by rw[Cq];exact a,b,by rw[bJ,List.length_map];exact d,rfl,rfl⟩
theorem Xc{l:List Ab}{x y:Ab}(h:x.eqv y):RE (l.set u x) (l.set u y):=by
 refine⟨by simp,fun j hj=>?_⟩;have hj':j<l.length:=by simpa using hj
 unfold Aa;by_cases e:j=u
 ·subst e;simp[hj'];exact h
 ·have:u≠j:=fun h=>e h.symm;simp[this];exact .refl _
theorem MH{l:List Ae}{x y:Ae}(h:x.eqv y):Tf (l.set u x) (l.set u y):=by
 refine⟨by simp,fun j hj=>?_⟩;have hj':j<l.length:=by simpa using hj
 unfold Ao;by_cases e:j=u
 ·subst e;simp[hj'];exact h
 ·have:u≠j:=fun h=>e h.symm;simp[this];exact .refl _
theorem Vg{o o2:Ab}(h:o.eqv o2):∀lo,RE (Bn o lo) (Bn o2 lo)
 |[]=>⟨rfl,fun j hj=>by
  have e:j=0:=by simp[Bn]at hj;omega
  subst e;exact h⟩
 |x::r=>by
  have ih:=Vg h r;have e:o2.id=o.id:=h.1;by_cases hx:o.id<x.id
  ·have a:Bn o (x::r)=o::x::r:=(by simp[Bn,hx]);have b:Bn o2 (x::r)=o2::x::r:=(by simp[Bn,e,hx]);rw[a,b];refine⟨rfl,fun j hj=>?_⟩;cases j with
   |zero=>exact h
   |succ j=>exact .refl _
  ·have a:Bn o (x::r)=x::Bn o r:=(by simp[Bn,hx]);have b:Bn o2 (x::r)=x::Bn o2 r:=(by simp[Bn,e,hx]);rw[a,b];refine⟨by simp[ih.1],fun j hj=>?_⟩;cases j with
   |zero=>exact .refl _
   |succ j=>exact ih.2 j (by simpa using hj)
def Vb(c c2:Int)(tx tx2:ByteArray)(lt lt2:List Ae)(lo lo2:List Ab):Prop:=c2=c/\tx2=tx/\Tf lt lt2/\RE lo lo2
theorem Bi:Vb c c tx tx lt lt lo lo:=⟨rfl,rfl,.refl _,.refl _⟩
theorem Ar.eqv.of_same{c d e:Ar}(h:c.same d)(h2:c.same e):d.eqv e:=⟨h2.1.trans h.1.symm,fun _ _=>⟨by rw[h2.2.1,h.2.1],by rw[h2.2.2,h.2.2]⟩⟩
theorem WA{c2:Int}{tx2:ByteArray}{lt2:List Ae}{lo2:List Ab}(h:FA X s lt lo t c tx lt' lo')(h2:FA X s lt lo t c2 tx2 lt2 lo2):Vb c c2 tx tx2 lt' lt2 lo' lo2:=by
 cases h with
 |k1 h x e1 e2 p=>
  cases h2;all_goals try(exfalso;omega)
  rename_i h' x2 f1 f2 p2;subst e1 e2 f1 f2;rcases p with⟨rfl,a,rfl,rfl⟩|⟨rfl,a,rfl,a1,c1,rfl⟩<;>rcases p2 with⟨rfl,b,rfl,rfl⟩|⟨rfl,b,rfl,a2,cc2,rfl⟩
  ·exact Bi
  ·exact absurd a b
  ·exact absurd b a
  ·exact⟨rfl,rfl,MH (.refl _),.refl _⟩
 |k12 h x e1 e2 e3 p=>
  cases h2;all_goals try(exfalso;omega)
  rename_i h' x2 f1 f2 f3 p2;subst e1 e2 f1 f2 e3 f3;rcases p with⟨rfl,a,rfl⟩|⟨rfl,a,d,sd,rfl⟩<;>rcases p2 with⟨rfl,b,rfl⟩|⟨rfl,b,d2,sd2,rfl⟩
  ·exact Bi
  ·rw[a]at b;cases b
  ·rw[a]at b;cases b
  ·exact⟨rfl,rfl,MH ⟨rfl,rfl,.of_same sd sd2,rfl,⟨rfl,fun _ _=>⟨rfl,rfl⟩⟩,⟨rfl,fun _ _=>rfl⟩,rfl⟩,.refl _⟩
 |k14 h x e1 e2 e3 p=>
  cases h2;all_goals try(exfalso;omega)
  rename_i h' x2 f1 f2 f3 p2;subst e1 e2 f1 f2 e3 f3;rcases p with⟨rfl,a,rfl⟩|⟨rfl,a,a1,c1,rfl⟩<;>rcases p2 with⟨rfl,b,rfl⟩|⟨rfl,b,a2,cc2,rfl⟩
  ·exact Bi
  ·rw[a]at b;cases b
  ·rw[a]at b;cases b
  ·exact⟨rfl,rfl,MH (.refl _),.refl _⟩
 |make h p=>
  cases h2;all_goals try(exfalso;omega)
  rename_i h' p2;rcases p with⟨rfl,a,rfl,rfl,rfl⟩|⟨rfl,a,a',rfl,rfl,rfl⟩|⟨rfl,a,a',rfl,rfl,d1,d2,ow,s1,s2,s3,rfl⟩<;>rcases p2 with⟨rfl,b,rfl,rfl,rfl⟩|⟨rfl,b,b',rfl,rfl,rfl⟩|⟨rfl,b,b',rfl,rfl,f1,f2,ow2,r1,r2,r3,rfl⟩
  ·exact Bi
  ·rw[a]at b;cases b
  ·rw[a]at b;cases b
  ·rw[a]at b;cases b
  ·exact Bi
  ·exact absurd a' b'
  ·rw[a]at b;cases b
  ·exact absurd b' a'
  ·refine⟨rfl,rfl,.refl _,Vg (o:=newObj X s d1 d2 ow) (o2:=newObj X s f1 f2 ow2) ⟨rfl,rfl,rfl,rfl,.of_same s1 r1,rfl,⟨rfl,fun _ _=>rfl⟩,?_,rfl,?_⟩ lo⟩
   ·by_cases h5:0<s.cat
    ·rw[if_pos h5]at s3 r3;refine⟨r3.1.trans s3.1.symm,fun i hi=>?_⟩;have hi':i<ow.n:=hi;have e:i=0:=(by omega);subst e;exact r3.2.trans s3.2.symm
    ·rw[if_neg h5]at s3 r3;rw[s3,r3];exact⟨rfl,fun _ _=>rfl⟩
   ·by_cases h5:s.kind=5
    ·rw[if_pos h5]at s2 r2;exact .of_same s2 r2
    ·rw[if_neg h5]at s2 r2;rw[s2,r2];exact⟨rfl,fun _ _=>⟨rfl,rfl⟩⟩
 |drop h e1 e3 p=>
  cases h2;all_goals try(exfalso;omega)
  rename_i h' f1 f3 p2;subst e1 f1 e3 f3;rcases p with⟨rfl,a,rfl⟩|⟨rfl,a,u,a1,a2,rfl⟩<;>rcases p2 with⟨rfl,b,rfl⟩|⟨rfl,b,u2,b1,b2,rfl⟩
  ·exact Bi
  ·rw[a]at b;cases b
  ·rw[a]at b;cases b
  ·rw[a1]at b1;cases b1;exact Bi
 |k6 h p=>
  cases h2;all_goals try(exfalso;omega)
  rename_i h' p2;rcases p with⟨a,rfl,rfl,rfl,rfl⟩|⟨u,a,⟨a1,rfl,rfl,rfl,rfl⟩|⟨a1,rfl,rfl,rfl,rfl⟩⟩<;>rcases p2 with⟨b,rfl,rfl,rfl,rfl⟩|⟨u2,b,⟨b1,rfl,rfl,rfl,rfl⟩|⟨b1,rfl,rfl,rfl,rfl⟩⟩<;>first|exact Bi|(rw[a]at b;cases b;done)|(rw[a]at b;cases b;first|exact Bi|(rw[a1]at b1;cases b1))
 |k7 h p=>
  cases h2;all_goals try(exfalso;omega)
  rename_i h' p2;rcases p with⟨a,rfl,rfl,rfl,rfl⟩|⟨u,a,rfl,rfl,rfl,rfl⟩<;>rcases p2 with⟨b,rfl,rfl,rfl,rfl⟩|⟨u2,b,rfl,rfl,rfl,rfl⟩<;>first|exact Bi|(rw[a]at b;cases b;done)|(rw[a]at b;cases b;exact Bi)
 |k8 h p=>
  cases h2;all_goals try(exfalso;omega)
  rename_i h' p2;rcases p with⟨a,rfl,rfl,rfl,rfl⟩|⟨u,a,⟨a1,rfl,rfl,rfl,rfl⟩|⟨q,a1,⟨a2,rfl,rfl,rfl,rfl⟩|⟨a2,a3,rfl,rfl,rfl,rfl⟩⟩⟩<;>rcases p2 with⟨b,rfl,rfl,rfl,rfl⟩|⟨u2,b,⟨b1,rfl,rfl,rfl,rfl⟩|⟨q2,b1,⟨b2,rfl,rfl,rfl,rfl⟩|⟨b2,b3,rfl,rfl,rfl,rfl⟩⟩⟩<;>first|exact Bi|(rw[a]at b;cases b;done)|(rw[a]at b;cases b;first|exact Bi|(rw[a1]at b1;cases b1;done)|(rw[a1]at b1;cases b1;first|exact Bi|(exfalso;rcases a2 with h|h;exact h b2;rw[h]at b3;cases b3)|(exfalso;rcases b2 with h|h;exact h a2;rw[h]at a3;cases a3)))
 |k9 h p=>
  cases h2;all_goals try(exfalso;omega)
  rename_i h' p2;rcases p with⟨a,rfl,rfl,rfl,rfl⟩|⟨u,a,⟨a1,rfl,rfl,rfl,rfl⟩|⟨a1,a2,rfl,rfl,rfl,rfl⟩|⟨a1,a2,rfl,rfl,rfl,m1,m2,rfl⟩⟩<;>rcases p2 with⟨b,rfl,rfl,rfl,rfl⟩|⟨u2,b,⟨b1,rfl,rfl,rfl,rfl⟩|⟨b1,b2,rfl,rfl,rfl,rfl⟩|⟨b1,b2,rfl,rfl,rfl,n1,n2,rfl⟩⟩<;>first|exact Bi|(rw[a]at b;cases b;done)|(rw[a]at b;cases b;first|exact Bi|(rw[a1]at b1;cases b1;done)|exact absurd a2 b2|exact absurd b2 a2|exact⟨rfl,rfl,.refl _,Xc ⟨rfl,rfl,rfl,rfl,⟨rfl,fun _ _=>⟨rfl,rfl⟩⟩,rfl,⟨rfl,fun _ _=>rfl⟩,⟨rfl,fun _ _=>rfl⟩,rfl,⟨rfl,fun _ _=>⟨rfl,rfl⟩⟩⟩⟩)
 |k10 h p=>
  cases h2;all_goals try(exfalso;omega)
  rename_i h' p2;rcases p with⟨a,rfl,rfl,rfl,rfl⟩|⟨u,a,⟨a1,rfl,rfl,rfl,rfl⟩|⟨a1,a2,rfl,rfl,rfl,rfl⟩|⟨a1,a2,rfl,rfl,rfl,m1,m2,rfl⟩⟩<;>rcases p2 with⟨b,rfl,rfl,rfl,rfl⟩|⟨u2,b,⟨b1,rfl,rfl,rfl,rfl⟩|⟨b1,b2,rfl,rfl,rfl,rfl⟩|⟨b1,b2,rfl,rfl,rfl,n1,n2,rfl⟩⟩<;>first|exact Bi|(rw[a]at b;cases b;done)|(rw[a]at b;cases b;first|exact Bi|(rw[a1]at b1;cases b1;done)|exact absurd a2 b2|exact absurd b2 a2|exact⟨rfl,rfl,.refl _,Xc ⟨rfl,rfl,rfl,rfl,⟨rfl,fun _ _=>⟨rfl,rfl⟩⟩,rfl,⟨rfl,fun _ _=>rfl⟩,⟨rfl,fun _ _=>rfl⟩,rfl,⟨rfl,fun _ _=>⟨rfl,rfl⟩⟩⟩⟩)
 |k13 h p=>
  cases h2;all_goals try(exfalso;omega)
  rename_i h' p2;rcases p with⟨a,rfl,rfl,rfl,rfl⟩|⟨u,a,⟨a1,rfl,rfl,rfl,rfl⟩|⟨a1,a2,rfl,rfl,rfl,rfl⟩|⟨a1,a2,rfl,rfl,m1,m2,rfl,rfl⟩⟩<;>rcases p2 with⟨b,rfl,rfl,rfl,rfl⟩|⟨u2,b,⟨b1,rfl,rfl,rfl,rfl⟩|⟨b1,b2,rfl,rfl,rfl,rfl⟩|⟨b1,b2,rfl,rfl,n1,n2,rfl,rfl⟩⟩<;>first|exact Bi|(rw[a]at b;cases b;done)|(rw[a]at b;cases b;first|exact Bi|(rw[a1]at b1;cases b1;done)|exact absurd a2 b2|exact absurd b2 a2|exact⟨rfl,rfl,MH (.refl _),.refl _⟩)
 |k15 h p=>
  cases h2;all_goals try(exfalso;omega)
  rename_i h' p2;rcases p with⟨a,rfl,rfl,rfl,rfl⟩|⟨u,a,rfl,rfl,rfl,rfl⟩<;>rcases p2 with⟨b,rfl,rfl,rfl,rfl⟩|⟨u2,b,rfl,rfl,rfl,rfl⟩<;>first|exact Bi|(rw[a]at b;cases b;done)|(rw[a]at b;cases b;exact Bi)
variable {B M P:Nat}{w w':World}{c:Ar}{vt vo:Value}{lt:List Ae}{lo:List Ab}
def Ar.bs(c:Ar):List Nat:=if 0<c.n then(match c.a with|some p=>[p.block]|none=>[])else[]
def AJ.bs(c:AJ):List Nat:=if 0<c.n then(match c.a with|some p=>[p.block]|none=>[])else[]
def AH.bs(c:AH):List Nat:=if 0<c.n then(match c.a with|some p=>[p.block]|none=>[])else[]
theorem Ar.new.bs(h:c.new B w):c.bs.Nodup/\∀b∈c.bs,B<=b/\b<w.heap.size:=by
 unfold Ar.bs;split
 ·rename_i h0;obtain⟨b,m,F,e,h1,_,h3⟩:=h.2 h0;rw[e];exact⟨by simp,fun x hx=>by rw[List.mem_singleton.1 hx];exact⟨h1,h3.lt⟩⟩
 ·exact⟨by simp,fun x hx=>by cases hx⟩
theorem AJ.new.bs{c:AJ}(h:c.new B w):c.bs.Nodup/\∀b∈c.bs,B<=b/\b<w.heap.size:=by
 unfold AJ.bs;split
 ·rename_i h0;obtain⟨b,m,F,e,h1,_,h3⟩:=h.2 h0;rw[e];exact⟨by simp,fun x hx=>by rw[List.mem_singleton.1 hx];exact⟨h1,h3.lt⟩⟩
 ·exact⟨by simp,fun x hx=>by cases hx⟩
theorem AH.new.bs{c:AH}(h:c.new B w):c.bs.Nodup/\∀b∈c.bs,B<=b/\b<w.heap.size:=by
 unfold AH.bs;split
 ·rename_i h0;obtain⟨b,m,F,e,h1,_,h3⟩:=h.2 h0;rw[e];exact⟨by simp,fun x hx=>by rw[List.mem_singleton.1 hx];exact⟨h1,h3.lt⟩⟩
 ·exact⟨by simp,fun x hx=>by cases hx⟩
theorem Dh{l1 l2:List Nat}(h1:l1.Nodup)(h2:l2.Nodup)(a:∀x∈l1,x<M)(b:∀x∈l2,M<=x):(l1++l2).Nodup:=by
 rw[List.nodup_append];exact⟨h1,h2,fun x hx y hy e=>by have:=a x hx;have:=b y hy;omega⟩
def Ae.cb(t:Ae):List Nat:=t.c1.bs++t.c2.bs
def Ab.cb(t:Ab):List Nat:=t.c1.bs++t.c2.bs
theorem Ar.new.past(h:c.new B w)(hg:w.grownBy w' (some P))(hP:P<B):c.new B w':=h.of hg.size (fun b e h0=>by
 obtain⟨b',m,F,e',h1,_,hr⟩:=h.2 h0;rw[e]at e';cases e';exact hg.block b hr.lt (fun e=>by have:=Option.some.inj e;omega))
theorem AJ.new.past{c:AJ}(h:c.new B w)(hg:w.grownBy w' (some P))(hP:P<B):c.new B w':=h.of hg.size (fun b e h0=>by
 obtain⟨b',m,F,e',h1,_,hr⟩:=h.2 h0;rw[e]at e';cases e';exact hg.block b hr.lt (fun e=>by have:=Option.some.inj e;omega))
theorem AH.new.past{c:AH}(h:c.new B w)(hg:w.grownBy w' (some P))(hP:P<B):c.new B w':=h.of hg.size (fun b e h0=>by
 obtain⟨b',m,F,e',h1,_,hr⟩:=h.2 h0;rw[e]at e';cases e';exact hg.block b hr.lt (fun e=>by have:=Option.some.inj e;omega))
theorem BJ.past(h:BJ w B vt vo lt lo)(hg:w.grownBy w' (some P))(hP:P<B):BJ w' B vt vo lt lo:=by
 have ne:∀{ty sz n:Nat}{v:Value}{cs:List Value},w.ownsRow B ty sz v n cs->v.ownBlock=none∨v.ownBlock≠some P:=fun{ty sz n v cs} ho=> .inr (fun e=>by have:=(World.ownsRow.lt ho P e).1;omega);exact⟨World.ownsRow.kept h.t hg (ne h.t),World.ownsRow.kept h.o hg (ne h.o),fun x hx=>⟨(h.tn x hx).1.past hg hP,(h.tn x hx).2.1.past hg hP,(h.tn x hx).2.2.past hg hP⟩,fun x hx=>⟨(h.on x hx).1.past hg hP,(h.on x hx).2.1.past hg hP,(h.on x hx).2.2.1.past hg hP,(h.on x hx).2.2.2.past hg hP⟩,h.tc,h.oc⟩
structure Apart(lt:List Ae)(lo:List Ab):Prop where
 c:((lt.map Ae.cb).flatten++(lo.map Ab.cb).flatten).Nodup
 i:((lt.map fun x=>x.own.bs).flatten++(lo.map fun x=>x.own.bs).flatten).Nodup
 s:((lo.map fun x=>x.jA.bs).flatten).Nodup
theorem Apart.nil:Apart [] []:=⟨by simp,by simp,by simp⟩
theorem BJ.low3(h:BJ w B vt vo lt lo):(∀b∈(lt.map Ae.cb).flatten++(lo.map Ab.cb).flatten,b<w.heap.size)/\(∀b∈(lt.map fun x=>x.own.bs).flatten++(lo.map fun x=>x.own.bs).flatten,b<w.heap.size)/\(∀b∈(lo.map fun x=>x.jA.bs).flatten,b<w.heap.size):=by
 refine⟨fun b hb=>?_,fun b hb=>?_,fun b hb=>?_⟩
 ·rcases List.mem_append.1 hb with hb|hb
  ·obtain⟨l,hl,hb⟩:=List.mem_flatten.1 hb;obtain⟨x,hx,rfl⟩:=List.mem_map.1 hl;rcases List.mem_append.1 hb with hb|hb
   ·exact((h.tn x hx).1.bs.2 b hb).2
   ·exact((h.tn x hx).2.1.bs.2 b hb).2
  ·obtain⟨l,hl,hb⟩:=List.mem_flatten.1 hb;obtain⟨x,hx,rfl⟩:=List.mem_map.1 hl;rcases List.mem_append.1 hb with hb|hb
   ·exact((h.on x hx).1.bs.2 b hb).2
   ·exact((h.on x hx).2.2.2.bs.2 b hb).2
 ·rcases List.mem_append.1 hb with hb|hb
  ·obtain⟨l,hl,hb⟩:=List.mem_flatten.1 hb;obtain⟨x,hx,rfl⟩:=List.mem_map.1 hl;exact((h.tn x hx).2.2.bs.2 b hb).2
  ·obtain⟨l,hl,hb⟩:=List.mem_flatten.1 hb;obtain⟨x,hx,rfl⟩:=List.mem_map.1 hl;exact((h.on x hx).2.2.1.bs.2 b hb).2
 ·obtain⟨l,hl,hb⟩:=List.mem_flatten.1 hb;obtain⟨x,hx,rfl⟩:=List.mem_map.1 hl;exact((h.on x hx).2.1.bs.2 b hb).2
theorem Apart.addT(h:Apart lt [])(hk:BJ w B vt vo lt []){x:Ae}(hx:x.new M w')(hM:w.heap.size<=M)(hn:x.cb.Nodup):Apart (lt++[x]) []:=by
 obtain⟨k1,k2,_⟩:=hk.low3;refine⟨?_,?_,by simp⟩
 ·have:=Dh (M:=w.heap.size) (l2:=x.cb) (by simpa using h.c) hn (by simpa using k1) (fun b hb=>by
   rcases List.mem_append.1 hb with hb|hb
   ·exact Nat.le_trans hM (hx.1.bs.2 b hb).1
   ·exact Nat.le_trans hM (hx.2.1.bs.2 b hb).1)
  simpa using this
 ·have:=Dh (M:=w.heap.size) (l2:=x.own.bs) (by simpa using h.i) hx.2.2.bs.1 (by simpa using k2) (fun b hb=>Nat.le_trans hM (hx.2.2.bs.2 b hb).1);simpa using this
theorem Apart.addO(h:Apart lt lo)(hk:BJ w B vt vo lt lo){x:Ab}(hx:x.new M w')(hM:w.heap.size<=M)(hn:x.cb.Nodup):Apart lt (lo++[x]):=by
 obtain⟨k1,k2,k3⟩:=hk.low3;refine⟨?_,?_,?_⟩
 ·have:=Dh (M:=w.heap.size) (l2:=x.cb) h.c hn k1 (fun b hb=>by
   rcases List.mem_append.1 hb with hb|hb
   ·exact Nat.le_trans hM (hx.1.bs.2 b hb).1
   ·exact Nat.le_trans hM (hx.2.2.2.bs.2 b hb).1)
  simpa[List.append_assoc]using this
 ·have:=Dh (M:=w.heap.size) (l2:=x.own.bs) h.i hx.2.2.1.bs.1 k2 (fun b hb=>Nat.le_trans hM (hx.2.2.1.bs.2 b hb).1);simpa[List.append_assoc]using this
 ·have:=Dh (M:=w.heap.size) (l2:=x.jA.bs) h.s hx.2.1.bs.1 k3 (fun b hb=>Nat.le_trans hM (hx.2.1.bs.2 b hb).1);simpa using this
open Go.BigFrame Go.Shelf Go.Proofs.Tryz
theorem JV(c:AJ)(w:World)(hc:c.at w)(hn:c.n<=1048576):
 Calls prog 70 #[c.val] w fun e w'=>∃d:AJ,e= .returned d.val/\(c.same d/\(d.n<=d.k/\d.k<=maxLen))/\d.new w w'/\Below w w w':=by
 obtain⟨a,n,cap,f⟩:=c;obtain⟨hm,hc⟩:=hc;unfold AJ.val;simp only at hm hc hn ⊢;have L0:=hc.intL;have el:((List.range n).map f).length=n:=by simp
 have L:Hid (Bp w a n (((List.range n).map f).map (Value.int .i64))):=hid (by unfold DD at L0;rw[el]at L0;exact L0);clear hc L0;go_enter func70,ntmps70
 go_wp2_with(refine Bs underlying37 Tryz.info2 rfl (by omega) _ rfl _ _ rfl w (.slice none 0 0) 0 [] rfl (World.ownsRow_nil _ _ _ _) a n cap (((List.range n).map f).map (Value.int .i64)) rfl (by simp) L (fun u hu=>by obtain⟨y,_,rfl⟩:=List.mem_map.1 hu;rfl) (by omega) (by omega) nr ?_;intro a3 c3 w3 o3 g3;rw[Nat.zero_add,List.nil_append]at o3;rw[Nat.zero_add])
 go_ret;have ho:Ay w3 w (.slice a3 ((List.range n).map f).length c3) ((List.range n).map f):=by unfold Ay;rw[el];exact o3
 have hi:Be w3 a3 n f:=fun h0=>by
  obtain⟨b,off,e,hlt,hcc⟩:=(Ay.lies ho).ints (by rw[el];exact h0);refine⟨b,off,e,hlt,fun i hi=>?_⟩;have:=hcc i (by rw[el];exact hi);rw[this];simp[AV,hi]
 exact⟨⟨a3,n,c3,f⟩,rfl,⟨⟨rfl,rfl⟩,CZ o3⟩,⟨⟨hm,hi⟩,fun h0=>by have:=Dl o3 h0;simpa using this⟩,below_grown g3 nr (fun j hj=>by cases hj)⟩
def AH.tight(d:AH):Prop:=d.n=0->d.a=none/\d.k=0
theorem OF(c:AH)(w:World)(hc:c.at w)(hn:c.n<=1048576):
 Calls prog 71 #[c.val] w fun e w'=>∃d:AH,e= .returned d.val/\((c.same d/\d.tight)/\(d.n<=d.k/\d.k<=maxLen))/\d.new w w'/\Below w w w':=by
 obtain⟨a,n,cap,f⟩:=c;obtain⟨hm,hc,hz⟩:=hc;unfold AH.val;simp only at hm hc hn hz ⊢;have L:=hid (JB hc);have HZ:=hid hz;clear hc hz;by_cases h0:n=0
 ·subst h0;cases a;all_goals(
   go_enter func71,ntmps71
   go_wp2;go_ret;exact⟨⟨none,0,0,f⟩,rfl,⟨⟨⟨rfl,rfl⟩,fun _=>⟨rfl,rfl⟩⟩,⟨Nat.le_refl _,Nat.zero_le _⟩⟩,⟨⟨Nat.zero_le _,fun h=>absurd h (Nat.lt_irrefl 0),HZ⟩,fun h=>absurd h (Nat.lt_irrefl 0)⟩,Below.refl _ _⟩)
 go_enter func71,ntmps71
 go_wp2_with(refine Bs underlying42 Tryz.info9 rfl (by omega) _ rfl _ _ rfl w (.slice none 0 0) 0 [] rfl (World.ownsRow_nil _ _ _ _) a n cap ((List.range n).map (fun i=>Value.string (f i))) rfl (by simp) L (fun u hu=>by obtain⟨y,_,rfl⟩:=List.mem_map.1 hu;rfl) (by omega) (by omega) nr ?_;intro a3 c3 w3 o3 g3;rw[Nat.zero_add,List.nil_append]at o3;rw[Nat.zero_add])
 go_ret;have hi:Jn w3 a3 n f:=fun h0=>by
  obtain⟨b,off,e,hlt,hcc⟩:=Bp.own o3 h0;exact⟨b,off,e,hlt,fun i hi=>hcc i _ (by simp[hi])⟩
 exact⟨⟨a3,n,c3,f⟩,rfl,⟨⟨⟨rfl,rfl⟩,fun e=>absurd e (by simp only;omega)⟩,CZ o3⟩,⟨⟨hm,hi,HZ⟩,fun h0=>Jg o3 h0⟩,below_grown g3 nr (fun j hj=>by cases hj)⟩
theorem LP(t:Ae)(w:World)(ht:t.at w)(hs:t.small):
 Calls prog 26 #[t.val] w fun e w'=>∃u:Ae,e= .returned u.val/\t.same u/\u.new w w'/\(u.own.n<=u.own.k/\u.own.k<=maxLen)/\u.cb.Nodup/\Below w w w':=by
 have EG:∀args w,(callFunc 69 args).run prog w= .ok (.enter 69 args) w:=enters_of func69 (by kernel_rfl) rfl;have EH:∀args w,(callFunc 70 args).run prog w= .ok (.enter 70 args) w:=enters_of func70 (by kernel_rfl) rfl;have n4:No (.cells #[.int .i64 0,.int .i64 0,.slice none 0 0,.int .i64 0,.slice none 0 0,.slice none 0 0,.int .i64 0] 39):=⟨⟩;have b0:Below w w ((w.alloc t.blk).alloc n4):=(Bf w _).alloc (by simp) _;have A0:=(Ag.new w t.blk).alloc n4;have R0:Ag ((w.alloc t.blk).alloc n4) (w.heap.size+1) n4:=by
  have:=Ag.new (w.alloc t.blk) n4;simpa using this
 have T0:=hid (ht.below b0);unfold Ae.blk at b0 A0 R0 T0;unfold Ae.val;obtain⟨x0,x1,x2,x3,x4,x5,x6⟩:=A0.seven;obtain⟨m1,m2,m3⟩:=hs;clear ht;go_enter func26,ntmps26
 go_wp2;have n5:No (.cells #[t.id,t.b1,t.c1.val,t.b2,t.c2.val,t.own.val,t.made] 39):=⟨⟩;generalize hV:((w.alloc n5).alloc n4)=V at *;have B0:=hid b0;have A0':=hid A0;have R0':=hid R0;have PA:Hid (∀W,Below V V W->Calls prog 69 #[.agg #[t.b1,t.c1.val]] W fun e w'=>∃v,e= .returned v/\∃d:Ar,v= .agg #[t.b1,d.val]/\t.c1.same d/\d.new W w'/\Below W W w'):=hid (fun W hW=>(AW t.b1 t.c1 W (T0.out.below hW).1 m1).mono fun e w' ⟨d,h1,h2,h3,h4⟩=>⟨_,h1,d,rfl,h2,h3,h4⟩);have PB:Hid (∀W,Below V V W->Calls prog 69 #[.agg #[t.b2,t.c2.val]] W fun e w'=>∃v,e= .returned v/\∃d:Ar,v= .agg #[t.b2,d.val]/\t.c2.same d/\d.new W w'/\Below W W w'):=hid (fun W hW=>(AW t.b2 t.c2 W (T0.out.below hW).2.1 m2).mono fun e w' ⟨d,h1,h2,h3,h4⟩=>⟨_,h1,d,rfl,h2,h3,h4⟩);have PC:Hid (∀W,Below V V W->Calls prog 70 #[t.own.val] W fun e w'=>∃v,e= .returned v/\∃d:AJ,v=d.val/\(t.own.same d/\(d.n<=d.k/\d.k<=maxLen))/\d.new W w'/\Below W W w'):=hid (fun W hW=>(JV t.own W (T0.out.below hW).2.2 m3).mono fun e w' ⟨d,h1,h2,h3,h4⟩=>⟨_,h1,d,rfl,h2,h3,h4⟩);have V0:Hid (Below V V V.drew):=hid (Below.refl _ V).drew;have Ad:Hid (Ag V.drew w n5):=hid A0;clear hV b0 A0 R0;have mk1:True:=trivial;have mk2:True:=trivial;go_region_law(first
  |(clear mk1;refine Dk (by rfl) 69 _ _ (by rfl) EG _ (by rfl) _ (PA _ V0) ?_;rintro v w1 ⟨d1,rfl,s1,n1,h1⟩;have V1:=hid (Af V0 h1);obtain⟨e0,e1,e2,e3,e4,e5,e6⟩:=(Ad.out.below h1).seven)
  |(clear mk2;refine Dk (by rfl) 69 _ _ (by rfl) EG _ (by rfl) _ (PB _ V1) ?_;rintro v w2 ⟨d2,rfl,s2,n2,h2⟩;have V2:=hid (Af V1 h2);obtain⟨f0,f1,f2,f3,f4,f5,f6⟩:=((Ad.out.below h1).below h2).seven)
  |(refine Dk (by rfl) 70 _ _ (by rfl) EH _ (by rfl) _ (PC _ V2) ?_;rintro v w3 ⟨d3,rfl,s3,n3,h3⟩;have V3:=hid (Af V2 h3);unfold Ar.val AJ.val;obtain⟨g0,g1,g2,g3,g4,g5,g6⟩:=(((Ad.out.below h1).below h2).below h3).seven;have gf:=(((Ad.out.below h1).below h2).below h3).jC))
 all_goals(
  have A3:=hid (((Ad.out.below h1).below h2).below h3);have R3:Hid (Ag w3 (w.heap.size+1) _):=hid (R0'.out.below V3);have ND:=hid (Dh n1.bs.1 n2.bs.1 (fun x hx=>(n1.bs.2 x hx).2) (fun x hx=>(n2.bs.2 x hx).1));have N1:=hid ((n1.below h2).below h3);have N2:=hid (n2.below h3);have N3:=hid n3;have S1:=hid s1;have S2:=hid s2;have S3:=hid s3;have B3:=hid (Af B0 V3);have L0:=hid (show w.heap.size<=V.drew.heap.size from B0.out.size);have L1:=hid (Nat.le_trans L0 h1.size);have L2:=hid (Nat.le_trans L1 h2.size);obtain⟨r0,r1,r2,r3,r4,r5,r6⟩:=R3.out.seven;have rf:=R3.out.jC;have ne1:¬w.heap.size+1=w.heap.size:=by omega
  have ne2:¬w.heap.size=w.heap.size+1:=by omega
  clear h1 h2 h3 n1 n2 n3 s1 s2 s3 e0 e1 e2 e3 e4 e5 e6 f0 f1 f2 f3 f4 f5 f6 x0 x1 x2 x3 x4 x5 x6 PA PB PC EG EH V0 V1 V2 V3 Ad;simp only[Ar.val,AJ.val]at g2 g4 g5;go_wp2;refine bodyPost_ret (Em _ _ (w.heap.size+1) (.int .i64 t.id) (.int .i64 t.b1) (.slice d1.a d1.n d1.k) (.int .i64 t.b2) (.slice d2.a d2.n d2.k) (.slice d3.a d3.n d3.k) (.int .i64 t.made) (Ag.all7 (((((R3.out.other (by omega) _).other (by omega) _).other (by omega) _).other (by omega) _).other (by omega) _) _ _ _ _ _ _ _) rfl) rfl ⟨⟨t.id,t.b1,d1,t.b2,d2,d3,t.made⟩,rfl,⟨rfl,rfl,S1,rfl,S2,S3.out.1,rfl⟩,⟨?_,?_,?_⟩,S3.out.2,ND,?_⟩
  ·refine(N1.out.low L0).of (by simp) (fun g hg hn'=>?_);have q1:=N1.out.ne A3 (by decide) g hg hn';have q2:=N1.out.ne R3 (by decide) g hg hn';iterate 12 rw[blk_setCell_other _ _ _ _ (by dsimp only;omega)]
  ·refine(N2.out.low L1).of (by simp) (fun g hg hn'=>?_);have q1:=N2.out.ne A3 (by decide) g hg hn';have q2:=N2.out.ne R3 (by decide) g hg hn';iterate 12 rw[blk_setCell_other _ _ _ _ (by dsimp only;omega)]
  ·refine(N3.out.low L2).of (by simp) (fun g hg hn'=>?_);have q1:=N3.out.ne A3 (by decide) g hg hn';have q2:=N3.out.ne R3 (by decide) g hg hn';iterate 12 rw[blk_setCell_other _ _ _ _ (by dsimp only;omega)]
  ·iterate 12 refine Below.setCell ?_ (by dsimp only;omega) _
   exact B3.out)
theorem Lm(t:Ab)(w:World)(ht:t.at w)(hs:t.small):
 Calls prog 28 #[t.val] w fun e w'=>∃u:Ab,e= .returned u.val/\t.same u/\u.new w w'/\(u.jA.n<=u.jA.k/\u.jA.k<=maxLen)/\(u.own.n<=u.own.k/\u.own.k<=maxLen)/\(u.cb.Nodup/\u.jA.tight)/\Below w w w':=by
 have EG:∀args w,(callFunc 69 args).run prog w= .ok (.enter 69 args) w:=enters_of func69 (by kernel_rfl) rfl;have EH:∀args w,(callFunc 70 args).run prog w= .ok (.enter 70 args) w:=enters_of func70 (by kernel_rfl) rfl;have EI:∀args w,(callFunc 71 args).run prog w= .ok (.enter 71 args) w:=enters_of func71 (by kernel_rfl) rfl;have b0:Below w w ((w.alloc t.blk).alloc Dp):=(Bf w _).alloc (by simp) _;have A0:=(Ag.new w t.blk).alloc Dp;have R0:Ag ((w.alloc t.blk).alloc Dp) (w.heap.size+1) Dp:=by
  have:=Ag.new (w.alloc t.blk) Dp;simpa using this
 have T0:=hid (ht.below b0);unfold Ab.blk Dp at b0 A0 R0 T0;unfold Ab.val;obtain⟨x0,x1,x2,x3,x4,x5,x6,x7,x8,x9⟩:=A0.jE;obtain⟨m1,m2,m3,m4,m5⟩:=hs;clear ht;go_enter func28,ntmps28
 go_wp2;have n5:No (.cells #[t.id,t.kind,t.up,t.b1,t.c1.val,.string t.data,t.jA.val,t.own.val,t.b2,t.c2.val] 44):=⟨⟩;generalize hV:((w.alloc n5).alloc (.cells #[.int .i64 0,.int .i64 0,.int .i64 0,.int .i64 0,.slice none 0 0,.string (ByteArray.mk #[]),.slice none 0 0,.slice none 0 0,.int .i64 0,.slice none 0 0] 44))=V at *;have B0:=hid b0;have A0':=hid A0;have R0':=hid R0;have PA:Hid (∀W,Below V V W->Calls prog 69 #[.agg #[t.b1,t.c1.val]] W fun e w'=>∃v,e= .returned v/\∃d:Ar,v= .agg #[t.b1,d.val]/\t.c1.same d/\d.new W w'/\Below W W w'):=hid (fun W hW=>(AW t.b1 t.c1 W (T0.out.below hW).1 m1).mono fun e w' ⟨d,h1,h2,h3,h4⟩=>⟨_,h1,d,rfl,h2,h3,h4⟩);have PB:Hid (∀W,Below V V W->Calls prog 69 #[.agg #[t.b2,t.c2.val]] W fun e w'=>∃v,e= .returned v/\∃d:Ar,v= .agg #[t.b2,d.val]/\t.c2.same d/\d.new W w'/\Below W W w'):=hid (fun W hW=>(AW t.b2 t.c2 W (T0.out.below hW).2.2.2.1 m5).mono fun e w' ⟨d,h1,h2,h3,h4⟩=>⟨_,h1,d,rfl,h2,h3,h4⟩);have PC:Hid (∀W,Below V V W->Calls prog 70 #[t.own.val] W fun e w'=>∃v,e= .returned v/\∃d:AJ,v=d.val/\(t.own.same d/\(d.n<=d.k/\d.k<=maxLen))/\d.new W w'/\Below W W w'):=hid (fun W hW=>(JV t.own W (T0.out.below hW).2.2.1 m4).mono fun e w' ⟨d,h1,h2,h3,h4⟩=>⟨_,h1,d,rfl,h2,h3,h4⟩);have PD:Hid (∀W,Below V V W->Calls prog 71 #[t.jA.val] W fun e w'=>∃v,e= .returned v/\∃d:AH,v=d.val/\((t.jA.same d/\d.tight)/\(d.n<=d.k/\d.k<=maxLen))/\d.new W w'/\Below W W w'):=hid (fun W hW=>(OF t.jA W (T0.out.below hW).2.1 m3.1).mono fun e w' ⟨d,h1,h2,h3,h4⟩=>⟨_,h1,d,rfl,h2,h3,h4⟩);have V0:Hid (Below V V V.drew):=hid (Below.refl _ V).drew;have Ad:Hid (Ag V.drew w n5):=hid A0;clear hV b0 A0 R0;have HS0:Ag V.drew w n5:=Ad.out;refine Am 13 (fun W=>Ag W w n5) (by kernel_rfl) ?_;have HS1:(fun W=>Ag W w n5) V.drew:=HS0;clear HS0;have n6:Nv (.pointer (some ⟨w,3,none⟩)):=⟨⟩;refine Bd (i:=0) (d:=3) n6 rfl rfl (by kernel_rfl) (by kernel_rfl) (by kernel_rfl) (by kernel_rfl) (by kernel_rfl) (by kernel_rfl) (fun _ _ _ h=>h) (Or.inl ⟨by rfl,fun W hSw=>by go_simp⟩) HS1 ?_;simp only[ap,List.set];refine Bd (i:=1) (d:=4) (.agg #[t.b1,t.c1.val]) rfl rfl (by kernel_rfl) (by kernel_rfl) (by kernel_rfl) (by kernel_rfl) (by kernel_rfl) (by kernel_rfl) (fun _ _ _ h=>h) (Or.inl ⟨by rfl,fun W hSw=>by obtain⟨q0,q1,q2,q3,q4,q5,q6,q7,q8,q9⟩:=Ag.jE hSw;go_simp⟩) HS1 ?_;simp only[ap,List.set];refine Bd (i:=3) (d:=6) (.pointer (some ⟨w,8,none⟩)) rfl rfl (by kernel_rfl) (by kernel_rfl) (by kernel_rfl) (by kernel_rfl) (by kernel_rfl) (by kernel_rfl) (fun _ _ _ h=>h) (Or.inl ⟨by rfl,fun W hSw=>by go_simp⟩) HS1 ?_;simp only[ap,List.set];refine Bd (i:=4) (d:=7) (.agg #[t.b2,t.c2.val]) rfl rfl (by kernel_rfl) (by kernel_rfl) (by kernel_rfl) (by kernel_rfl) (by kernel_rfl) (by kernel_rfl) (fun _ _ _ h=>h) (Or.inl ⟨by rfl,fun W hSw=>by obtain⟨q0,q1,q2,q3,q4,q5,q6,q7,q8,q9⟩:=Ag.jE hSw;go_simp⟩) HS1 ?_;simp only[ap,List.set];refine Bd (i:=6) (d:=9) (.pointer (some ⟨w,7,none⟩)) rfl rfl (by kernel_rfl) (by kernel_rfl) (by kernel_rfl) (by kernel_rfl) (by kernel_rfl) (by kernel_rfl) (fun _ _ _ h=>h) (Or.inl ⟨by rfl,fun W hSw=>by go_simp⟩) HS1 ?_;simp only[ap,List.set];refine Bd (i:=7) (d:=10) (t.own.val) rfl rfl (by kernel_rfl) (by kernel_rfl) (by kernel_rfl) (by kernel_rfl) (by kernel_rfl) (by kernel_rfl) (fun _ _ _ h=>h) (Or.inl ⟨by rfl,fun W hSw=>by obtain⟨q0,q1,q2,q3,q4,q5,q6,q7,q8,q9⟩:=Ag.jE hSw;go_simp⟩) HS1 ?_;simp only[ap,List.set];refine Bd (i:=9) (d:=12) (.pointer (some ⟨w,6,none⟩)) rfl rfl (by kernel_rfl) (by kernel_rfl) (by kernel_rfl) (by kernel_rfl) (by kernel_rfl) (by kernel_rfl) (fun _ _ _ h=>h) (Or.inl ⟨by rfl,fun W hSw=>by go_simp⟩) HS1 ?_;simp only[ap,List.set];refine Bd (i:=10) (d:=13) (t.jA.val) rfl rfl (by kernel_rfl) (by kernel_rfl) (by kernel_rfl) (by kernel_rfl) (by kernel_rfl) (by kernel_rfl) (fun _ _ _ h=>h) (Or.inl ⟨by rfl,fun W hSw=>by obtain⟨q0,q1,q2,q3,q4,q5,q6,q7,q8,q9⟩:=Ag.jE hSw;go_simp⟩) HS1 ?_;simp only[ap,List.set];refine Ac (i:=2) (by kernel_rfl) rfl ?_;intro K hK;refine AE (by rfl) 69 _ _ (by rfl) EG _ (by rfl) (some 5) (by rfl) _ (PA _ V0) ?_;rintro v w1 ⟨d1,rfl,s1,n1,h1⟩;refine hK _ _ (fun _=>Ag.below HS1 h1) ?_;have V1:=hid (Af V0 h1);have HS2:(fun W=>Ag W w n5) w1:=Ag.below HS1 h1;clear hK K HS1;try simp only[ap,List.set]
 refine Bd (i:=12) (d:=15) n6 rfl rfl (by kernel_rfl) (by kernel_rfl) (by kernel_rfl) (by kernel_rfl) (by kernel_rfl) (by kernel_rfl) (fun _ _ _ h=>h) (Or.inl ⟨by rfl,fun W hSw=>by go_simp⟩) HS2 ?_;simp only[ap,List.set];refine Ac (i:=5) (by kernel_rfl) rfl ?_;intro K hK;refine AE (by rfl) 69 _ _ (by rfl) EG _ (by rfl) (some 8) (by rfl) _ (PB _ V1) ?_;rintro v w2 ⟨d2,rfl,s2,n2,h2⟩;refine hK _ _ (fun _=>Ag.below HS2 h2) ?_;have V2:=hid (Af V1 h2);have HS3:(fun W=>Ag W w n5) w2:=Ag.below HS2 h2;clear hK K HS2;try simp only[ap,List.set]
 refine Ac (i:=8) (by kernel_rfl) rfl ?_;intro K hK;refine AE (by rfl) 70 _ _ (by rfl) EH _ (by rfl) (some 11) (by rfl) _ (PC _ V2) ?_;rintro v w3 ⟨d3,rfl,s3,n3,h3⟩;refine hK _ _ (fun _=>Ag.below HS3 h3) ?_;have V3:=hid (Af V2 h3);have HS4:(fun W=>Ag W w n5) w3:=Ag.below HS3 h3;clear hK K HS3;try simp only[ap,List.set]
 refine Ac (i:=11) (by kernel_rfl) rfl ?_;intro K hK;refine AE (by rfl) 71 _ _ (by rfl) EI _ (by rfl) (some 14) (by rfl) _ (PD _ V3) ?_;rintro v w4 ⟨d4,rfl,s4,n4,h4⟩;refine hK _ _ (fun _=>Ag.below HS4 h4) ?_;have V4:=hid (Af V3 h4);have HS5:(fun W=>Ag W w n5) w4:=Ag.below HS4 h4;clear hK K HS4;try simp only[ap,List.set]
 unfold Ar.val AJ.val AH.val;obtain⟨g0,g1,g2,g3,g4,g5,g6,g7,g8,g9⟩:=Ag.jE HS5;have gf:=Ag.jC HS5;simp only[Ar.val,AJ.val,AH.val]at g4 g6 g7 g9;refine Ac (i:=13) (by kernel_rfl) rfl ?_;intro K hK;go_simp;refine hK _ _ (fun h=>absurd h (by decide)) ?_;clear hK K;try simp only[ap,List.set]
 refine Ac (i:=14) (by kernel_rfl) rfl ?_;intro K hK;go_simp;refine hK _ _ (fun h=>absurd h (by decide)) ?_;clear hK K;try simp only[ap,List.set]
 refine Ac (i:=15) (by kernel_rfl) rfl ?_;intro K hK;go_simp;refine hK _ _ (fun h=>absurd h (by decide)) ?_;clear hK K;try simp only[ap,List.set]
 refine Ac (i:=16) (by kernel_rfl) rfl ?_;intro K hK;go_simp;refine hK _ _ (fun h=>absurd h (by decide)) ?_;clear hK K;try simp only[ap,List.set]
 refine Ac (i:=17) (by kernel_rfl) rfl ?_;intro K hK;go_simp;refine hK _ _ (fun h=>absurd h (by decide)) ?_;clear hK K;try simp only[ap,List.set]
 refine Ac (i:=18) (by kernel_rfl) rfl ?_;intro K hK;go_simp;refine hK _ _ (fun h=>absurd h (by decide)) ?_;clear hK K;try simp only[ap,List.set]
 refine Ac (i:=19) (by kernel_rfl) rfl ?_;intro K hK;go_simp;refine hK _ _ (fun h=>absurd h (by decide)) ?_;clear hK K;try simp only[ap,List.set]
 refine Aj (by kernel_rfl) ?_ _;have A3:=hid HS5;have R3:Hid (Ag w4 (w.heap.size+1) _):=hid (R0'.out.below V4);have ND:=hid (Dh n1.bs.1 n2.bs.1 (fun x hx=>(n1.bs.2 x hx).2) (fun x hx=>(n2.bs.2 x hx).1));have N1:=hid (((n1.below h2).below h3).below h4);have N2:=hid ((n2.below h3).below h4);have N3:=hid (n3.below h4);have N4:=hid n4;have S1:=hid s1;have S2:=hid s2;have S3:=hid s3;have S4:=hid s4;have B3:=hid (Af B0 V4);have L0:=hid (show w.heap.size<=V.drew.heap.size from B0.out.size);have L1:=hid (Nat.le_trans L0 h1.size);have L2:=hid (Nat.le_trans L1 h2.size);have L3:=hid (Nat.le_trans L2 h3.size);obtain⟨r0,r1,r2,r3,r4,r5,r6,r7,r8,r9⟩:=R3.out.jE;have rf:=R3.out.jC;have ne1:¬w.heap.size+1=w.heap.size:=by omega
 have ne2:¬w.heap.size=w.heap.size+1:=by omega
 clear h1 h2 h3 h4 n1 n2 n3 n4 s1 s2 s3 s4 x0 x1 x2 x3 x4 x5 x6 x7 x8 x9 PA PB PC PD EG EH EI V0 V1 V2 V3 V4 Ad HS5;go_wp2;refine bodyPost_ret (Ps _ _ (w.heap.size+1) (.int .i64 t.id) (.int .i64 t.kind) (.int .i64 t.up) (.int .i64 t.b1) (.slice d1.a d1.n d1.k) (.string t.data) (.slice d4.a d4.n d4.k) (.slice d3.a d3.n d3.k) (.int .i64 t.b2) (.slice d2.a d2.n d2.k) (Ag.all10 ((((((R3.out.other (by omega) _).other (by omega) _).other (by omega) _).other (by omega) _).other (by omega) _).other (by omega) _) _ _ _ _ _ _ _ _ _ _) rfl) rfl ⟨⟨t.id,t.kind,t.up,t.b1,d1,t.data,d4,d3,t.b2,d2⟩,rfl,⟨rfl,rfl,rfl,rfl,S1,rfl,S4.out.1.1,S3.out.1,rfl,S2⟩,⟨?_,?_,?_,?_⟩,S4.out.2,S3.out.2,⟨ND,S4.out.1.2⟩,?_⟩
 ·refine(N1.out.low L0).of (by simp) (fun g hg hn'=>?_);have q1:=N1.out.ne A3 (by decide) g hg hn';have q2:=N1.out.ne R3 (by decide) g hg hn';iterate 16 rw[blk_setCell_other _ _ _ _ (by dsimp only;omega)]
 ·refine(N4.out.low L3).of (by simp) (fun g hg hn'=>?_);have q1:=N4.out.ne A3 (by decide) g hg hn';have q2:=N4.out.ne R3 (by decide) g hg hn';iterate 16 rw[blk_setCell_other _ _ _ _ (by dsimp only;omega)]
 ·refine(N3.out.low L2).of (by simp) (fun g hg hn'=>?_);have q1:=N3.out.ne A3 (by decide) g hg hn';have q2:=N3.out.ne R3 (by decide) g hg hn';iterate 16 rw[blk_setCell_other _ _ _ _ (by dsimp only;omega)]
 ·refine(N2.out.low L1).of (by simp) (fun g hg hn'=>?_);have q1:=N2.out.ne A3 (by decide) g hg hn';have q2:=N2.out.ne R3 (by decide) g hg hn';iterate 16 rw[blk_setCell_other _ _ _ _ (by dsimp only;omega)]
 ·iterate 16 refine Below.setCell ?_ (by dsimp only;omega) _
  exact B3.out
end Go.Proofs.YteoihknaljgocaaGreatDoor
