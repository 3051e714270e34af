import Derived.Deep.AppendLies
import Derived.Laws.OwnMore
import Derived.WideShapes
import Derived.Maps.AppendAt
import Derived.Laws.IdiomStrings
import Derived.Test.YtdaccbddcjlkpaaGreatDoorZ0p
set_option maxRecDepth 100000
set_option maxHeartbeats 4000000
namespace Go.Proofs.YtdaccbddcjlkpaaGreatDoor
open _root_.List renaming range→qx,mem_range→jG,map_append→kF,sum_append→zY,range_succ→kZ,nodup_iff_count→zq,map_cons→xG
open _root_.Option renaming bind_some→kQ,some→jV
def Bq(ids:Nat->Int)(n:Nat)(x:Int):Option Nat:=(qx n).find? (fun j=>ids j==x)
def J6(ids ups:Nat->Int)(n i:Nat):Option Nat:=if i=0 then none else Bq ids n (ups i)
def Bt(ids ups:Nat->Int)(n:Nat):Nat->Nat->Option Nat
 |0,i=>some i
 |m+1,i=>(J6 ids ups n i).bind (Bt ids ups n m)
def DU(ids ups:Nat->Int)(n i:Nat):List Nat:=(qx n).filter (fun j=>ups j==ids i)
def Gk(ids ups:Nat->Int)(n:Nat):Nat->Nat->List Nat
 |0,_=>[]
 |f+1,i=>i::(DU ids ups n i).flatMap (Gk ids ups n f)
def DK(ids:Nat->Int)(n:Nat):Prop:=∀i j,i<j->j<n->ids i<ids j
theorem AH{ids:Nat->Int}{n:Nat}{x:Int}{j:Nat}(h:Bq ids n x=some j):j<n/\ids j=x:=by
 unfold Bq at h;exact⟨jG.1 (List.mem_of_find?_eq_some h),by simpa using List.find?_some h⟩
theorem Jd{ids:Nat->Int}{n:Nat}{x:Int}(h:Bq ids n x=none):∀j,j<n->ids j≠x:=by
 unfold Bq at h;rw[List.find?_eq_none]at h;intro j hj e;have:=h j (jG.2 hj);simp[e]at this
theorem DK.inj{ids:Nat->Int}{n:Nat}(h:DK ids n){i j:Nat}(hi:i<n)(hj:j<n)(e:ids i=ids j):i=j:=by
 rcases Nat.lt_trichotomy i j with h1|h1|h1
 ·have:=h i j h1 hj;omega
 ·exact h1
 ·have:=h j i h1 hi;omega
theorem Eg{ids:Nat->Int}{n:Nat}(h:DK ids n){j:Nat}(hj:j<n):Bq ids n (ids j)=some j:=by
 cases e:Bq ids n (ids j)with
 |none=>exact absurd rfl (Jd e j hj)
 |some k=>
  obtain⟨h1,h2⟩:=AH e;rw[h.inj h1 hj h2]
section
variable {ids ups:Nat->Int}{n:Nat}
theorem Fv(a b i:Nat):Bt ids ups n (a+b) i=(Bt ids ups n a i).bind (Bt ids ups n b):=by
 induction a generalizing i with
 |zero=>simp[Bt]
 |succ a ih=>
  rw[Nat.succ_add];simp only[Bt];cases J6 ids ups n i with
  |none=>rfl
  |some k=>simp only[kQ];exact ih k
theorem Q8(i:Nat):Bt ids ups n 1 i=J6 ids ups n i:=by
 simp only[Bt];cases J6 ids ups n i<;>rfl
theorem Ek(m i:Nat):Bt ids ups n (m+1) i=(Bt ids ups n m i).bind (J6 ids ups n):=by
 rw[Fv];congr 1;funext j;exact Q8 j
theorem Oj{i j:Nat}(h:J6 ids ups n i=some j):j<n:=by
 unfold J6 at h;split at h
 ·cases h
 ·exact(AH h).1
theorem UM{m i j:Nat}(hi:i<n)(h:Bt ids ups n m i=some j):j<n:=by
 cases m with
 |zero=>simp only[Bt,jV.injEq]at h;omega
 |succ m=>
  rw[Ek]at h;cases e:Bt ids ups n m i with
  |none=>simp[e]at h
  |some k=>simp only[e,kQ]at h;exact Oj h
def Ii(ids ups:Nat->Int)(n i:Nat):Prop:=∀p,Bt ids ups n (p+1) i≠some i
theorem Gt:Ii ids ups n 0:=fun p h=>by simp[Bt,J6]at h
theorem Ya{i k:Nat}(h:Ii ids ups n i)(hk:J6 ids ups n k=some i):Ii ids ups n k:=fun p e=>by
 have e1:Bt ids ups n p i=some k:=by
  have:=e;simp only[Bt,hk,kQ]at this;exact this
 exact h p (by rw[Ek,e1];exact hk)
theorem PI{i k m:Nat}(h:Ii ids ups n i)(hk:Bt ids ups n m k=some i):Ii ids ups n k:=fun p e=>by
 have e2:Bt ids ups n (p+1+m) k=some i:=by rw[Fv,e];exact hk
 rw[Nat.add_comm,Fv,hk]at e2;exact h p e2
theorem Jc(n:Nat)(l:List Nat)(h:∀x∈l,x<n):l.length=((qx n).map (fun j=>l.count j)).sum:=by
 induction l with
 |nil=>
  have:∀L:List Nat,(L.map (fun j=>([]:List Nat).count j)).sum=0:=by
   intro L;induction L with
   |nil=>rfl
   |cons a L ih=>rw[xG,List.sum_cons,ih];rfl
  rw[this];rfl
 |cons a l ih=>
  have h1:=ih (fun x hx=>h x (List.mem_cons_of_mem _ hx));have ha:a<n:=h a List.mem_cons_self;have key:∀N,(((qx N).map (fun j=>(a::l).count j)).sum)=((qx N).map (fun j=>l.count j)).sum+(if a<N then 1 else 0):=by
   intro N;induction N with
   |zero=>simp
   |succ N ihN=>
    rw[kZ,kF,zY,kF,zY,ihN];simp only[xG,List.map_nil,List.sum_cons,List.sum_nil,List.count_cons];by_cases e:a=N
    ·subst e;simp;omega
    ·have e1:(a==N)=false:=(by simpa using e);simp only[e1];by_cases e2:a<N
     ·have:a<N+1:=qQ;simp[e2,this];omega
     ·have:¬a<N+1:=qQ;simp[e2,this]
  rw[key,if_pos ha,List.length_cons,h1]
theorem Pu(n:Nat)(c:Nat->Nat)(h:∀j,c j<=1):((qx n).map c).sum<=n:=by
 induction n with
 |zero=>simp
 |succ n ih=>rw[kZ,kF,zY];have:=h n;simp;omega
theorem ZF(n:Nat)(c:Nat->Nat)(h:∀j,c j<=1)(e:((qx n).map c).sum=n):∀j,j<n->c j=1:=by
 induction n with
 |zero=>intro j hj;omega
 |succ n ih=>
  rw[kZ,kF,zY]at e;simp at e;have h1:=Pu n c h;have h2:=h n;intro j hj;by_cases e1:j=n
  ·subst e1;omega
  ·exact ih qQ j qQ
theorem cB(n:Nat)(c:Nat->Nat)(h:∀j,j<n->c j=1):((qx n).map c).sum=n:=by
 induction n with
 |zero=>simp
 |succ n ih=>rw[kZ,kF,zY,ih (fun j hj=>h j qQ)];simp[h n qQ]
theorem Hh{l:List Nat}(hl:l.Nodup)(h:∀x∈l,x<n):l.length<=n:=by
 rw[Jc n l h];exact Pu n _ (fun j=>zq.1 hl j)
theorem Wl{l:List Nat}(hl:l.Nodup)(h:∀x∈l,x<n):l.length=n↔∀j,j<n->j∈l:=by
 constructor
 ·intro e j hj;rw[Jc n l h]at e;have:=ZF n _ (fun j=>zq.1 hl j) e j hj;exact List.count_pos_iff.1 qQ
 ·intro e;rw[Jc n l h];refine cB n _ (fun j hj=>?_);have h1:=zq.1 hl j;have h2:=List.count_pos_iff.2 (e j hj);omega
theorem Pn{i j m:Nat}(hc:Ii ids ups n i)(hj:j<n)(h:Bt ids ups n m j=some i):m<n:=by
 have each:∀q,q<=m->∃x,Bt ids ups n q j=some x:=fun q hq=>by
  have e:m=q+(m-q):=by omega
  rw[e,Fv]at h;cases e1:Bt ids ups n q j with
  |none=>simp[e1]at h
  |some x=>exact⟨x,rfl⟩
 have hl:((qx (m+1)).map (fun q=>(Bt ids ups n q j).getD 0)).Nodup:=by
  rw[List.Nodup,List.pairwise_map];refine List.Pairwise.imp_of_mem ?_ (List.pairwise_lt_range (n:=m+1));intro a b ha hb hab e;have ha':=jG.1 ha;have hb':=jG.1 hb;obtain⟨x,hx⟩:=each a qQ;obtain⟨y,hy⟩:=each b qQ;simp only[hx,hy,Option.getD_some]at e;subst e;have e1:b=a+(b-a-1+1):=by omega
  rw[e1,Fv,hx,kQ]at hy;have e2:m=a+(m-a):=by omega
  rw[e2,Fv,hx,kQ]at h;exact PI hc h _ hy
 have:=Hh (n:=n) hl (by
  intro x hx;obtain⟨q,hq,rfl⟩:=List.mem_map.1 hx;have hq':=jG.1 hq;obtain⟨y,hy⟩:=each q qQ;rw[hy];exact UM hj hy)
 simp at this;omega
theorem Gi(hr:DK ids n)(h0:∀j,j<n->ids j≠ups 0){i k:Nat}(hi:i<n):k∈DU ids ups n i↔k<n/\J6 ids ups n k=some i:=by
 unfold DU;rw[List.mem_filter,jG];constructor
 ·rintro⟨h1,h2⟩;refine⟨h1,?_⟩;have h2':ups k=ids i:=by simpa using h2
  unfold J6;split
  ·rename_i e;subst e;exact absurd h2'.symm (h0 i hi)
  ·rw[h2'];exact Eg hr hi
 ·rintro⟨h1,h2⟩;refine⟨h1,?_⟩;unfold J6 at h2;split at h2
  ·cases h2
  ·simp[(AH h2).2]
theorem Fe(hr:DK ids n)(h0:∀j,j<n->ids j≠ups 0){f i j:Nat}(hi:i<n):j∈Gk ids ups n f i↔j<n/\∃m,m<f/\Bt ids ups n m j=some i:=by
 induction f generalizing i with
 |zero=>simp[Gk]
 |succ f ih=>
  simp only[Gk,List.mem_cons,List.mem_flatMap];constructor
  ·rintro(rfl|⟨k,hk,hj⟩)
   ·exact⟨hi,0,by omega,rfl⟩
   ·obtain⟨k1,k2⟩:=(Gi hr h0 hi).1 hk;obtain⟨hj',m,hm,e⟩:=(ih k1).1 hj;exact⟨hj',m+1,by omega,by rw[Ek,e];exact k2⟩
  ·rintro⟨hj,m,hm,e⟩;cases m with
   |zero=>simp only[Bt,jV.injEq]at e;exact .inl e
   |succ m=>
    rw[Ek]at e;cases e1:Bt ids ups n m j with
    |none=>simp[e1]at e
    |some k=>
     simp only[e1,kQ]at e;have hk:=UM hj e1;exact .inr ⟨k,(Gi hr h0 hi).2 ⟨hk,e⟩,(ih hk).2 ⟨hj,m,by omega,e1⟩⟩
theorem IR(hr:DK ids n)(h0:∀j,j<n->ids j≠ups 0){f i:Nat}(hi:i<n)(hc:Ii ids ups n i):(Gk ids ups n f i).Nodup:=by
 induction f generalizing i with
 |zero=>simp[Gk]
 |succ f ih=>
  simp only[Gk,List.nodup_cons,List.mem_flatMap];refine⟨?_,?_⟩
  ·rintro⟨k,hk,hj⟩;obtain⟨k1,k2⟩:=(Gi hr h0 hi).1 hk;obtain⟨_,m,_,e⟩:=(Fe hr h0 k1).1 hj;exact hc m (by rw[Ek,e];exact k2)
  ·rw[List.Nodup,List.pairwise_flatMap];refine⟨fun k hk=>?_,?_⟩
   ·obtain⟨k1,k2⟩:=(Gi hr h0 hi).1 hk;exact ih k1 (Ya hc k2)
   ·have hn:(DU ids ups n i).Nodup:=List.Nodup.sublist List.filter_sublist List.nodup_range;refine List.Pairwise.imp_of_mem ?_ hn;intro a b ha hb hab x hx y hy exy;subst exy;obtain⟨a1,a2⟩:=(Gi hr h0 hi).1 ha;obtain⟨b1,b2⟩:=(Gi hr h0 hi).1 hb;obtain⟨_,p,_,ep⟩:=(Fe hr h0 a1).1 hx;obtain⟨_,q,_,eq⟩:=(Fe hr h0 b1).1 hy;have far:∀{a b p q:Nat},J6 ids ups n a=some i->J6 ids ups n b=some i->Bt ids ups n p x=some a->Bt ids ups n q x=some b->p<q->False:=by
     intro a b p q a2 b2 ep eq hpq;have e1:q=p+(q-p-1+1):=qQ;rw[e1,Fv,ep,kQ]at eq;simp only[Bt,a2,kQ]at eq;exact hc (q-p-1) (by rw[Ek,eq];exact b2)
    rcases Nat.lt_trichotomy p q with h|h|h
    ·exact far a2 b2 ep eq h
    ·subst h;rw[ep]at eq;exact hab (by simpa using eq)
    ·exact far b2 a2 eq ep h
def FC(ids ups:Nat->Int)(n:Nat):Bool:=(qx n).all fun i=>(qx n).any fun m=>Bt ids ups n m i==some 0
theorem Gv:FC ids ups n=true↔∀i,i<n->∃m,m<n/\Bt ids ups n m i=some 0:=by
 simp only[FC,List.all_eq_true,List.any_eq_true,jG,beq_iff_eq]
theorem aK(hr:DK ids n)(h0:∀j,j<n->ids j≠ups 0)(hn:0<n):((Gk ids ups n n 0).length=n)↔FC ids ups n=true:=by
 rw[Wl (IR hr h0 hn Gt) (fun x hx=>((Fe hr h0 hn).1 hx).1),Gv];constructor
 ·intro h i hi;exact((Fe hr h0 hn).1 (h i hi)).2
 ·intro h i hi;exact(Fe hr h0 hn).2 ⟨hi,h i hi⟩
theorem Pq{i m:Nat}(h:Bt ids ups n m i=some 0):Ii ids ups n i:=PI Gt h
end
open Go.RowKit Go.Deep Go.Proofs.Tryz
open _root_.List renaming all_eq_true→kH
open _root_.Nat renaming zero_le→qy
variable {n k:Nat}
def C8(t:Ae):Bool:=Dz t.id t.made t.b1 t.c1.n t.c1.f t.c1.g t.b2 t.c2.n t.c2.f t.c2.g t.own.n t.own.h
theorem Yg(t:Ae)(w:World)(ht:t.at w):
 Calls prog 59 #[t.val] w fun e w'=>e= .returned (.bool (C8 t))/\Below w w w':=JV _ _ _ _ _ _ _ _ _ _ _ _ _ _ _ _ _ _ w ht.1.1 ht.2.1.1 ht.2.2.1 ht.1.2 ht.2.1.2 ht.2.2.2
def Ej(T:Nat->Ae)(i:Nat):Bool:=C8 (T i)&&(i==0||decide ((T (i-1)).id<(T i).id))
def BH(n:Nat)(T:Nat->Ae):Bool:=decide (1<=n)&&decide (n<=9)&&(qx n).all (Ej T)
def Gd(O:Nat->Ab)(i:Nat):Bool:=CF (O i)&&(if i=0 then decide (0<(O 0).id)else decide ((O (i-1)).id<(O i).id))
def Gm(t:Ab):Bool:=t.id==1&&t.kind==3&&t.up==0
def Cr(n:Nat)(O:Nat->Ab):Bool:=decide (1<=n)&&decide (n<=271)&&(qx n).all (Gd O)&&Gm (O 0)
theorem Hs{p:Nat->Bool}(hk:k<n)(e:p k=false):(qx n).all p=false:=by
 rw[List.all_eq_false];exact⟨k,jG.2 hk,by simp[e]⟩
theorem Fc{p:Nat->Bool}(e:∀i,i<n->p i=true):(qx n).all p=true:=by
 rw[kH];intro i hi;exact e i (jG.1 hi)
theorem FI{p:Nat->Bool}(e:(qx n).all p=true):∀i,i<n->p i=true:=fun i hi=>kH.1 e i (jG.2 hi)
theorem Lr{t:Ae}(h:C8 t=true):1<=t.id/\t.id<=9:=by
 unfold C8 Dz at h;simp only[Bool.and_eq_true]at h;exact CY.1 (by simp_all)
theorem ZX{T:Nat->Ae}(h:C8 (T k)=true)(e:(T k).id<=lastOf (fun i=>(T i).id) k):Ej T k=false:=by
 have h1:=Lr h;by_cases e0:k=0
 ·subst e0;simp[lastOf]at e;omega
 ·simp[lastOf,e0]at e;have:decide ((T (k-1)).id<(T k).id)=false:=by simp;omega
  simp[Ej,e0,this]
theorem Yz{T:Nat->Ae}(h:C8 (T k)=true)(e:¬(T k).id<=lastOf (fun i=>(T i).id) k):Ej T k=true:=by
 by_cases e0:k=0
 ·subst e0;simp[Ej,h]
 ·simp[lastOf,e0]at e;simp[Ej,h,e]
theorem Zs{O:Nat->Ab}(e:(O k).id<=lastOf (fun i=>(O i).id) k):Gd O k=false:=by
 by_cases e0:k=0
 ·subst e0;simp[lastOf]at e;simp[Gd];intro _;omega
 ·simp[lastOf,e0]at e;have:decide ((O (k-1)).id<(O k).id)=false:=by simp;omega
  simp[Gd,e0,this]
theorem Yv{O:Nat->Ab}(h:CF (O k)=true)(e:¬(O k).id<=lastOf (fun i=>(O i).id) k):Gd O k=true:=by
 by_cases e0:k=0
 ·subst e0;simp[lastOf]at e;simp[Gd,h,e]
 ·simp[lastOf,e0]at e;simp[Gd,h,e,e0]
def Ae.blk(t:Ae):Obj:= .cells #[t.id,t.b1,t.c1.val,t.b2,t.c2.val,t.own.val,t.made] 53
theorem Ag.c0{W:World}{P t:Nat}{cs:Array Value}(h:Ag W P (.cells cs t))(i:Nat){v:Value}(hv:cs[i]? =some v):W.cell? ⟨P,i,none⟩=some v:=by
 unfold Ag at h;simp[World.cell?,h,hv]
theorem Qz(a:Option Addr)(n cap:Nat)(T:Nat->Ae)(w:World)(hn:n<=maxLen)(hT:Jb w a n T):
 Calls prog 30 #[.slice a n cap] w fun e w'=>e= .returned (.bool (BH n T))/\Below w w w':=by
 unfold maxLen at hn;have HT:=qC hT;clear hT;by_cases h1:n<1
 ·have h1':(n:Int)<1:=by omega
  go_enter func30,ntmps30
  go_wp2;go_ret;have:n=0:=by omega
  exact⟨Ah (by simp[BH,this]),Below.refl _ _⟩
 have h1':¬(n:Int)<1:=by omega
 by_cases h9:9<n
 ·have h9':(9:Int)<(n:Int):=by omega
  go_enter func30,ntmps30
  go_wp2;go_ret;have:decide (n<=9)=false:=by simp;omega
  exact⟨Ah (by simp[BH,this]),Below.refl _ _⟩
 have h9':¬(9:Int)<(n:Int):=by omega
 go_enter func30,ntmps30
 go_wp2;go_loopw [3,16] (fun l i wr=>∃k:Nat,k<=n/\i= .int .i64 k/\l= .int .i64 (lastOf (fun i=>(T i).id) k)/\Hid (∀j,j<k->Ej T j=true)/\Below w w wr) (fun _ i _=>n-(intOf i).toNat)
 case atStart=>exact⟨0,qy _,rfl,rfl,qC (fun j hj=>by omega),Below.refl _ _⟩
 case round=>
  obtain⟨k,hk,rfl,rfl,HA,hB⟩:=hrel;by_cases hlt:k<n
  ·obtain⟨b,off,rfl,hlt0,hcc⟩:=HT.out.below hB qQ;obtain⟨⟨q0,q1,q2,q3,q4,q5,q6⟩,ht⟩:=hcc k hlt;have i1:(k:Int)<(n:Int):=qQ;have b1:Below wr wr (wr.alloc (T k).blk):=Bg wr _;have SZ:=qC (Yg (T k) _ (ht.below b1));have A0:=Ag.new wr (T k).blk;have B0:=Af hB b1;simp only[As.val,AJ.val,Ae.blk,Ae.val]at q2 q4 q5 SZ A0 b1 B0;clear hcc ht;go_wp2_with fail
   refine SZ.out.mono ?_;rintro e w2 ⟨rfl,hb2⟩;have A2:=A0.below hb2;have x0:=A2.c0 0 rfl;have B2:=Af B0 hb2;clear q0 q1 q2 q3 q4 q5 q6 SZ hb2 A0 B0 b1 hlt0;cases t1:C8 (T k)with
   |false=>
    go_wp2;go_ret;exact⟨Ah (by rw[BH,Hs hlt (by simp[Ej,t1])];simp),B2⟩
   |true=>
    by_cases t2:(T k).id<=lastOf (fun i=>(T i).id) k
    ·go_wp2;go_ret;exact⟨Ah (by rw[BH,Hs hlt (ZX t1 t2)];simp),B2⟩
    ·have HA2:Hid (∀j,j<k+1->Ej T j=true):=qC (fun j hj=>by
      by_cases e:j=k
      ·subst e;exact Yz t1 t2
      ·exact HA.out j qQ)
     go_wp2;exact⟨⟨k+1,by omega,by go_num,by rw[Il],HA2,B2⟩,by simp[intOf];omega⟩
  ·go_wp2;go_ret;have e:k=n:=qQ;subst e;refine⟨Ah ?_,hB⟩;rw[BH,Fc HA.out];simp;omega
theorem QF(a:Option Addr)(n cap:Nat)(O:Nat->Ab)(w:World)(hn:n<=maxLen)(hT:Io w a n O):
 Calls prog 31 #[.slice a n cap] w fun e w'=>e= .returned (.bool (Cr n O))/\Below w w w':=by
 unfold maxLen at hn;have HT:=qC hT;clear hT;by_cases h1:n<1
 ·have h1':(n:Int)<1:=by omega
  go_enter func31,ntmps31
  go_wp2;go_ret;have:n=0:=by omega
  exact⟨Ah (by simp[Cr,this]),Below.refl _ _⟩
 have h1':¬(n:Int)<1:=by omega
 by_cases h9:271<n
 ·have h9':(271:Int)<(n:Int):=by omega
  go_enter func31,ntmps31
  go_wp2;go_ret;have:decide (n<=271)=false:=by simp;omega
  exact⟨Ah (by simp[Cr,this]),Below.refl _ _⟩
 have h9':¬(271:Int)<(n:Int):=by omega
 go_enter func31,ntmps31
 go_wp2;go_loopw [3,17] (fun l i wr=>∃k:Nat,k<=n/\i= .int .i64 k/\l= .int .i64 (lastOf (fun i=>(O i).id) k)/\Hid (∀j,j<k->Gd O j=true)/\Below w w wr) (fun _ i _=>n-(intOf i).toNat)
 case atStart=>exact⟨0,qy _,rfl,rfl,qC (fun j hj=>by omega),Below.refl _ _⟩
 case round=>
  obtain⟨k,hk,rfl,rfl,HA,hB⟩:=hrel;by_cases hlt:k<n
  ·obtain⟨b,off,rfl,hlt0,hcc⟩:=HT.out.below hB qQ;obtain⟨⟨q0,q1,q2,q3,q4,q5,q6,q7,q8,q9⟩,ht⟩:=hcc k hlt;have i1:(k:Int)<(n:Int):=qQ;have b1:Below wr wr (wr.alloc (.cells #[.int .i64 (O k).id,.int .i64 (O k).kind,.int .i64 (O k).up,.int .i64 (O k).b1,(O k).c1.val,.string (O k).data,(O k).jA.val,(O k).own.val,.int .i64 (O k).b2,(O k).c2.val] 59)):=Bg wr _;have SZ:=qC (SE (O k) _ (ht.below b1));have A0:=Ag.new wr (.cells #[.int .i64 (O k).id,.int .i64 (O k).kind,.int .i64 (O k).up,.int .i64 (O k).b1,(O k).c1.val,.string (O k).data,(O k).jA.val,(O k).own.val,.int .i64 (O k).b2,(O k).c2.val] 59);have B0:=Af hB b1;simp only[As.val,AJ.val,AE.val,Ab.val]at q4 q6 q7 q9 SZ A0 b1 B0;clear hcc ht;go_wp2_with fail
   refine SZ.out.mono ?_;rintro e w2 ⟨rfl,hb2⟩;have A2:=A0.below hb2;have x0:=A2.c0 0 rfl;have B2:=Af B0 hb2;clear q0 q1 q2 q3 q4 q5 q6 q7 q8 q9 SZ hb2 A0 B0 b1 hlt0;cases t1:CF (O k)with
   |false=>
    go_wp2;go_ret;exact⟨Ah (by rw[Cr,Hs hlt (by simp[Gd,t1])];simp),B2⟩
   |true=>
    by_cases t2:(O k).id<=lastOf (fun i=>(O i).id) k
    ·go_wp2;go_ret;exact⟨Ah (by rw[Cr,Hs hlt (Zs t2)];simp),B2⟩
    ·have HA2:Hid (∀j,j<k+1->Gd O j=true):=qC (fun j hj=>by
      by_cases e:j=k
      ·subst e;exact Yv t1 t2
      ·exact HA.out j qQ)
     go_wp2;exact⟨⟨k+1,by omega,by go_num,by rw[Il],HA2,B2⟩,by simp[intOf];omega⟩
  ·have e:k=n:=qQ;subst e;obtain⟨b,off,rfl,hlt0,hcc⟩:=HT.out.below hB qQ;obtain⟨⟨q0,q1,q2,q3,q4,q5,q6,q7,q8,q9⟩,ht⟩:=hcc 0 qQ;simp only[Nat.zero_mul,Nat.add_zero]at q0 q1 q2 q3 q4 q5 q6 q7 q8 q9;have i0:(0:Int)<(k:Int):=qQ;have OK:Hid (Cr k O=Gm (O 0)):=qC (by
    have d1:decide (1<=k)=true:=sO;have d2:decide (k<=271)=true:=sO;rw[Cr,Fc HA.out,d1,d2];rfl)
   simp only[As.val,AJ.val,AE.val]at q4 q6 q7 q9;clear hcc ht HA;go_wp2;all_goals
    go_ret;refine⟨Ah ?_,hB.alloc hB.size _⟩;rw[OK.out];clear q0 q1 q2 q3 q4 q5 q6 q7 q8 q9;simp_all[Gm]
open Go.Maps
open Go.Value renaming slice→qV
open Go.Region renaming wanted→jW
open _root_.List renaming getElem?_eq_none→kC
open Go.World renaming ownsRow→qq
open Go renaming World→qM,Value→qB
open Go.WideShapes (add_plain)
variable {w:qM}{B n:Nat}{f g:Nat->Int}
def Cp(f g:Nat->Int)(n:Nat):List qB:=(List.range (n*2)).map (Dx f g)
theorem CR(f g:Nat->Int)(n:Nat):(Cp f g n).length=n*2:=by simp[Cp]
theorem DG(f g:Nat->Int)(n j:Nat)(h:j<n*2):(Cp f g n)[j]? =some (Dx f g j):=by simp[Cp,h]
theorem Ly(f g:Nat->Int)(n:Nat):∀u∈Cp f g n,u.oneCell'=true:=by
 intro u hu;obtain⟨j,_,rfl⟩:=List.mem_map.1 hu;unfold Dx;split<;>rfl
def glue(n:Nat)(f f':Nat->Int)(i:Nat):Int:=if i<n then f i else f' (i-n)
theorem Jk(f g f' g':Nat->Int)(n m:Nat):Cp f g n++Cp f' g' m=Cp (glue n f f') (glue n g g') (n+m):=by
 apply List.ext_getElem?;intro j;by_cases h1:j<n*2
 ·rw[List.getElem?_append_left (by rw[CR];exact h1),DG _ _ _ _ h1,DG _ _ _ _ qQ];have:j/2<n:=by omega
  simp[Dx,glue,this]
 ·rw[List.getElem?_append_right (by rw[CR];omega),CR];by_cases h2:j<(n+m)*2
  ·rw[DG _ _ _ _ qQ,DG _ _ _ _ h2];have a1:¬j/2<n:=qQ;have a2:(j-n*2)/2=j/2-n:=qQ;have a3:(j-n*2)%2=j%2:=qQ;simp[Dx,glue,a1,a2,a3]
  ·rw[kC (by rw[CR];omega),kC (by rw[CR];omega)]
def AO(w:qM)(B:Nat)(v:qB)(n:Nat)(f g:Nat->Int):Prop:=w.ownsRow B 96 2 v n (Cp f g n)
theorem AO.nil(w:qM)(B:Nat)(f g:Nat->Int):AO w B (qV none 0 0) 0 f g:=World.ownsRow_nil _ _ _ _
theorem AO.cats{c:Nat}{a:Option Addr}(h:AO w B (qV a n c) n f g):Bd w a n f g:=fun hn=>by
 obtain⟨gb,cap,hv,_,hlt⟩:=qq.form h hn;simp only[Value.slice.injEq]at hv;obtain⟨rfl,_,_⟩:=hv;have hc:=qq.cells h (g:=gb) rfl;refine⟨gb,0,rfl,hlt,fun i hi=>⟨?_,?_⟩⟩
 ·have t:=hc (i*2) _ (DG f g n (i*2) qQ);rw[add_plain]at t;rw[t];have e1:i*2%2=0:=by omega
  have e2:i*2/2=i:=by omega
  simp only[Dx,e1,e2,if_true]
 ·have t:=hc (i*2+1) _ (DG f g n (i*2+1) qQ);rw[add_plain,<-Nat.add_assoc]at t;rw[t];have e1:¬(i*2+1)%2=0:=by omega
  have e2:(i*2+1)/2=i:=by omega
  simp only[Dx,e2,if_neg e1]
theorem AO.shape{v:qB}(h:AO w B v n f g):∃a c,v= qV a n c:=by
 rcases h.2 with⟨rfl,rfl⟩|⟨gb,cap,cur,rfl,_⟩
 ·exact⟨_,_,rfl⟩
 ·exact⟨_,_,rfl⟩
theorem SF{b off m:Nat}(h:∀i,i<m->w.cell? ⟨b,off+i*2,none⟩=some (.int .i64 (f i))/\w.cell? ⟨b,off+i*2+1,none⟩=some (.int .i64 (g i))):
 ∀j u,(Cp f g m)[j]? =some u->w.cell? ((⟨b,off,none⟩:Addr).add j)=some u:=by
 intro j u hu;have hj:j<m*2:=by
  apply Nat.lt_of_not_le;intro hle;rw[kC (by rw[CR];exact hle)]at hu;cases hu
 rw[DG _ _ _ _ hj]at hu;cases hu;obtain⟨h1,h2⟩:=h (j/2) qQ;rw[add_plain];rcases Nat.mod_two_eq_zero_or_one j with e|e
 ·have e2:off+j/2*2=off+j:=by omega
  rw[e2]at h1;rw[h1];simp[Dx,e]
 ·have e2:off+j/2*2+1=off+j:=by omega
  rw[e2]at h2;rw[h2];simp[Dx,e]
theorem GO(w:qM)(ty B:Nat)(v:qB)(n:Nat)(f g:Nat->Int)(hown:AO w B v n f g)(a:Addr)(m c:Nat)(f' g':Nat->Int)
 (hnews:∀j u,(Cp f' g' m)[j]? =some u->w.cell? (a.add j)=some u)(hm:n+m<=4194304)(hB:B<=w.heap.size):
 ∃a' c' w',(Builtin.append_ #[40,40] ty #[v,qV (some a) m c]).run prog w= .ok (qV a' (n+m) c') w'/\AO w' B (qV a' (n+m) c') (n+m) (glue n f f') (glue n g g')/\w.grownBy w' v.ownBlock/\
  ((Value.slice a' (n+m) c').ownBlock=v.ownBlock∨(Value.slice a' (n+m) c').ownBlock=some w):=by
 obtain⟨i0,hi,hz0,hz1,hz2⟩:=info_parts Tryz.info96;obtain⟨v',w',hr,h2,h3,_,h5⟩:=run_append_own_at (P:=prog) w B 40 ty 96 i0 _ 2 16 underlying40 hi hz0 hz1 hz2 rfl qQ v n (Cp f g n) hown a m c (Cp f' g' m) (CR _ _ _) hnews (Ly _ _ _) (by unfold maxLen;omega) qQ hB;rw[Jk]at h2;obtain⟨a',c',rfl⟩:=AO.shape h2;exact⟨a',c',w',hr,h2,h3,h5⟩
theorem Nz(w:qM)(ty B:Nat)(v:qB)(n:Nat)(f g:Nat->Int)(hown:AO w B v n f g)(ad:Option Addr)(m c:Nat)(f' g':Nat->Int)(hc:Bd w ad m f' g')
 (hm:n+m<=4194304)(hB:B<=w.heap.size):
 ∃a' c' w',(Builtin.append_ #[40,40] ty #[v,qV ad m c]).run prog w= .ok (qV a' (n+m) c') w'/\AO w' B (qV a' (n+m) c') (n+m) (glue n f f') (glue n g g')/\w.grownBy w' v.ownBlock/\
  ((Value.slice a' (n+m) c').ownBlock=v.ownBlock∨(Value.slice a' (n+m) c').ownBlock=some w):=by
 by_cases h0:0<m
 ·obtain⟨b,off,rfl,_,hcc⟩:=hc h0;exact GO w ty B v n f g hown _ m c f' g' (SF hcc) hm hB
 ·obtain rfl:m=0:=by omega
  cases ad with
  |some a=>exact GO w ty B v n f g hown a 0 c f' g' (fun j u hu=>by simp[Cp]at hu) hm hB
  |none=>
   obtain⟨i0,hi,hz0,hz1,hz2⟩:=info_parts Tryz.info96;have e:=Jk f g f' g' n 0;have e0:Cp f' g' 0=[]:=rfl;rw[e0,List.append_nil]at e;have hown':=hown;unfold AO at hown' ⊢;rw[e]at hown';obtain⟨a',c',rfl⟩:=AO.shape hown;refine⟨a',c',w,?_,hown',⟨rfl,rfl,rfl,Nat.le_refl _,fun _ _ _=>rfl⟩,.inl rfl⟩;obtain⟨_,hx⟩:=hown;rcases hx with⟨hv,rfl⟩|⟨gb,cap,cur,hv,_,_,hnc,_⟩
   ·simp only[Value.slice.injEq]at hv;obtain⟨rfl,_,rfl⟩:=hv;simp[Builtin.append_,run_underlying underlying40,sizeOf,typeInfo,hi,Builtin.lenOf,Builtin.firstCells]
   ·simp only[Value.slice.injEq]at hv;obtain⟨rfl,_,rfl⟩:=hv;simp[Builtin.append_,run_underlying underlying40,sizeOf,typeInfo,hi,Builtin.lenOf,Builtin.firstCells,hnc,storeCells]
theorem JI{o:Oper}{a:Act}{K:Act->qM->Prop}{Q:Exit->Act->qM->Prop}(w:qM)(s x:Operand)
 (ho:o.op= .call {callee:= .builtin .append,args:=#[s,x],argTypes:=#[40,40]})
 (B:Nat)(v:qB)(n:Nat)(f g:Nat->Int)(hs:a.eval s=v)(hown:AO w B v n f g)(ad:Option Addr)(m c:Nat)(f' g':Nat->Int)(hx:a.eval x= qV ad m c)(hc:Bd w ad m f' g')
 (hm:n+m<=4194304)(hB:B<=w.heap.size)
 (h:∀a' c' w',AO w' B (qV a' (n+m) c') (n+m) (glue n f f') (glue n g g')->w.grownBy w' v.ownBlock->((Value.slice a' (n+m) c').ownBlock=v.ownBlock∨(Value.slice a' (n+m) c').ownBlock=some w)->K (a.put o.dst (qV a' (n+m) c')) w'):o.wp prog a w K Q:=by
 obtain⟨a',c',w',hr,h2,h3,h4⟩:=Nz w o.type B v n f g hown ad m c f' g' hc hm hB;unfold Oper.wp execOp;simp only[ho,resolve,invoke,builtin,Sem.run_bind,Sem.run_pure,Result.andThen_ok,List.map_toArray,List.map_cons,List.map_nil,hs,hx,hr];exact h a' c' w' h2 h3 h4
theorem Hv{ops:Array Oper}{rest:List Oper}{o:Oper}{a:Act}{Q:Exit->Act->qM->Prop}(w:qM)(hgd:o.guard=none)(s x:Operand)
 (ho:o.op= .call {callee:= .builtin .append,args:=#[s,x],argTypes:=#[40,40]})
 (B:Nat)(v:qB)(n:Nat)(f g:Nat->Int)(hs:a.eval s=v)(hown:AO w B v n f g)(ad:Option Addr)(m c:Nat)(f' g':Nat->Int)(hx:a.eval x= qV ad m c)(hc:Bd w ad m f' g')
 (hm:n+m<=4194304)(hB:B<=w.heap.size)
 (h:∀a' c' w',AO w' B (qV a' (n+m) c') (n+m) (glue n f f') (glue n g g')->w.grownBy w' v.ownBlock->((Value.slice a' (n+m) c').ownBlock=v.ownBlock∨(Value.slice a' (n+m) c').ownBlock=some w)->wpList prog ops Q rest (a.put o.dst (qV a' (n+m) c')) w'):wpList prog ops Q (o::rest) a w:=
 wpList_plain hgd fun _ hK=>JI w s x ho B v n f g hs hown ad m c f' g' hx hc hm hB fun a' c' w' h2 h3 h4=>hK _ _ (h a' c' w' h2 h3 h4)
theorem Fu{ops:Array Oper}{o:Oper}{a:Act}{K:Act->qM->Prop}{Q:Exit->Act->qM->Prop}{E:Prop}(w:qM)(hgd:o.guard=none)(s x:Operand)
 (ho:o.op= .call {callee:= .builtin .append,args:=#[s,x],argTypes:=#[40,40]})
 (B:Nat)(v:qB)(n:Nat)(f g:Nat->Int)(hs:a.eval s=v)(hown:AO w B v n f g)(ad:Option Addr)(m c:Nat)(f' g':Nat->Int)(hx:a.eval x= qV ad m c)(hc:Bd w ad m f' g')
 (hm:n+m<=4194304)(hB:B<=w.heap.size)
 (h:∀a' c' w',AO w' B (qV a' (n+m) c') (n+m) (glue n f f') (glue n g g')->w.grownBy w' v.ownBlock->((Value.slice a' (n+m) c').ownBlock=v.ownBlock∨(Value.slice a' (n+m) c').ownBlock=some w)->K (a.put o.dst (qV a' (n+m) c')) w'):
 if jW o (yielded ops a.tmps)=true then Oper.wp prog o a w K Q else E:=by
 have hw:jW o (yielded ops a.tmps)=true:=by simp[jW,hgd]
 rw[if_pos hw];exact JI w s x ho B v n f g hs hown ad m c f' g' hx hc hm hB h
theorem Rt(f f':Nat->Int):glue 0 f f'=f':=by funext i;simp[glue]
theorem If{ops:Array Oper}{o:Oper}{a:Act}{K:Act->qM->Prop}{Q:Exit->Act->qM->Prop}{E:Prop}(w:qM)(hgd:o.guard=none)(s x:Operand)
 (ho:o.op= .call {callee:= .builtin .append,args:=#[s,x],argTypes:=#[40,40]})
 (B:Nat)(v:qB)(f g:Nat->Int)(hs:a.eval s=v)(hown:AO w B v 0 f g)(ad:Option Addr)(m c:Nat)(f' g':Nat->Int)(hx:a.eval x= qV ad m c)(hc:Bd w ad m f' g')
 (hm:m<=4194304)(hB:B<=w.heap.size)
 (h:∀a' c' w',AO w' B (qV a' m c') m f' g'->w.grownBy w' v.ownBlock->((Value.slice a' m c').ownBlock=v.ownBlock∨(Value.slice a' m c').ownBlock=some w)->K (a.put o.dst (qV a' m c')) w'):
 if jW o (yielded ops a.tmps)=true then Oper.wp prog o a w K Q else E:=by
 refine Fu w hgd s x ho B v 0 f g hs hown ad m c f' g' hx hc qQ hB ?_;rw[Rt,Rt,Nat.zero_add];exact h
open Go
open _root_.List renaming length_append→jU
open Go.WideShapes (add_plain)
def Bl(w:qM)(ad:Option Addr)(n:Nat)(cs:List qB):Prop:=
 0<n->∃b off,ad=some ⟨b,off,none⟩/\b<w.heap.size/\∀j u,cs[j]? =some u->w.cell? ⟨b,off+j,none⟩=some u
theorem Bl.below{w w':qM}{ad:Option Addr}{n:Nat}{cs:List qB}(h:Bl w ad n cs)(hb:Below w w w'):Bl w' ad n cs:=fun hn=>by
 obtain⟨b,off,e,hlt,hc⟩:=h hn;exact⟨b,off,e,Nat.lt_of_lt_of_le hlt hb.size,fun j u hu=>(hb.cell (p:=⟨b,off+j,none⟩) hlt).trans (hc j u hu)⟩
theorem Bl.own{w:qM}{B e size n c:Nat}{a:Option Addr}{cs:List qB}(h:w.ownsRow B e size (qV a n c) n cs):Bl w a n cs:=fun hn=>by
 obtain⟨gb,cap,hv,_,hlt⟩:=qq.form h hn;simp only[Value.slice.injEq]at hv;obtain⟨rfl,_,_⟩:=hv;have hc:=qq.cells h (g:=gb) rfl;refine⟨gb,0,rfl,hlt,fun j u hu=>?_⟩;have t:=hc j u hu;rw[add_plain]at t;exact t
theorem CG{w:qM}{B e size n:Nat}{v:qB}{cs:List qB}(h:w.ownsRow B e size v n cs):∃a c,v= qV a n c:=by
 rcases h.2 with⟨rfl,rfl⟩|⟨gb,cap,cur,rfl,_⟩
 ·exact⟨_,_,rfl⟩
 ·exact⟨_,_,rfl⟩
section
variable {t e size bytes:Nat}{z:qB} (hT:prog.underlying t=some (.slice e)) (hI:(prog.info? e).map (fun i=>(i.zero,i.size,i.bytes))=some (some z,size,bytes)) (hzs:z.cells.size=size) (hsz:0<size)
include hT hI hzs hsz
theorem DY(w:qM)(ty B:Nat)(v:qB)(n:Nat)(cs:List qB)(hown:w.ownsRow B e size v n cs)(ad:Option Addr)(m c:Nat)(cs':List qB)(hl:cs'.length=m*size)(hc:Bl w ad m cs')(h1:∀u∈cs',u.oneCell'=true)
 (hm:n+m<=4194304)(hby:(n+m)*bytes<=140737488355328)(hB:B<=w.heap.size):
 ∃a' c' w',(Builtin.append_ #[t,t] ty #[v,qV ad m c]).run prog w= .ok (qV a' (n+m) c') w'/\w'.ownsRow B e size (qV a' (n+m) c') (n+m) (cs++cs')/\w.grownBy w' v.ownBlock/\
  ((Value.slice a' (n+m) c').ownBlock=v.ownBlock∨(Value.slice a' (n+m) c').ownBlock=some w):=by
 obtain⟨i0,hi,hz0,hz1,hz2⟩:=info_parts hI;have some':∀a:Addr,(∀j u,cs'[j]? =some u->w.cell? (a.add j)=some u)->∃a' c' w',(Builtin.append_ #[t,t] ty #[v,qV (some a) m c]).run prog w= .ok (qV a' (n+m) c') w'/\w'.ownsRow B e size (qV a' (n+m) c') (n+m) (cs++cs')/\w.grownBy w' v.ownBlock/\
  ((Value.slice a' (n+m) c').ownBlock=v.ownBlock∨(Value.slice a' (n+m) c').ownBlock=some w):=fun a hnews=>by
  obtain⟨v',w',hr,h2,h3,_,h5⟩:=run_append_own_at (P:=prog) w B t ty e i0 _ size bytes hT hi hz0 hz1 hz2 hzs hsz v n cs hown a m c cs' hl hnews h1 (by unfold maxLen;omega) hby hB;obtain⟨a',c',rfl⟩:=CG h2;exact⟨a',c',w',hr,h2,h3,h5⟩
 by_cases h0:0<m
 ·obtain⟨b,off,rfl,_,hcc⟩:=hc h0;exact some' _ (fun j u hu=>by rw[add_plain];exact hcc j u hu)
 ·obtain rfl:m=0:=by omega
  have e0:cs'=[]:=List.eq_nil_of_length_eq_zero qQ;subst e0;cases ad with
  |some a=>exact some' a (fun j u hu=>by simp at hu)
  |none=>
   obtain⟨a',c',rfl⟩:=CG hown;rw[List.append_nil];refine⟨a',c',w,?_,hown,⟨rfl,rfl,rfl,Nat.le_refl _,fun _ _ _=>rfl⟩,.inl rfl⟩;obtain⟨_,hx⟩:=hown;rcases hx with⟨hv,rfl⟩|⟨gb,cap,cur,hv,_,_,hnc,_⟩
   ·simp only[Value.slice.injEq]at hv;obtain⟨rfl,_,rfl⟩:=hv;simp[Builtin.append_,run_underlying hT,sizeOf,typeInfo,hi,Builtin.lenOf,Builtin.firstCells]
   ·simp only[Value.slice.injEq]at hv;obtain⟨rfl,_,rfl⟩:=hv;simp[Builtin.append_,run_underlying hT,sizeOf,typeInfo,hi,Builtin.lenOf,Builtin.firstCells,hnc,storeCells]
theorem DO{o:Oper}{a:Act}{K:Act->qM->Prop}{Q:Exit->Act->qM->Prop}(w:qM)(s x:Operand)
 (ho:o.op= .call {callee:= .builtin .append,args:=#[s,x],argTypes:=#[t,t]})
 (B:Nat)(v:qB)(n:Nat)(cs:List qB)(hs:a.eval s=v)(hown:w.ownsRow B e size v n cs)(ad:Option Addr)(m c:Nat)(cs':List qB)(hx:a.eval x= qV ad m c)(hl:cs'.length=m*size)(hc:Bl w ad m cs')(h1:∀u∈cs',u.oneCell'=true)
 (hm:n+m<=4194304)(hby:(n+m)*bytes<=140737488355328)(hB:B<=w.heap.size)
 (h:∀a' c' w',w'.ownsRow B e size (qV a' (n+m) c') (n+m) (cs++cs')->w.grownBy w' v.ownBlock->((Value.slice a' (n+m) c').ownBlock=v.ownBlock∨(Value.slice a' (n+m) c').ownBlock=some w)->K (a.put o.dst (qV a' (n+m) c')) w'):o.wp prog a w K Q:=by
 obtain⟨a',c',w',hr,h2,h3,h4⟩:=DY hT hI hzs hsz w o.type B v n cs hown ad m c cs' hl hc h1 hm hby hB;unfold Oper.wp execOp;simp only[ho,resolve,invoke,builtin,Sem.run_bind,Sem.run_pure,Result.andThen_ok,List.map_toArray,List.map_cons,List.map_nil,hs,hx,hr];exact h a' c' w' h2 h3 h4
end
def AI(w:qM)(B:Nat)(v:qB)(l:List Int):Prop:=w.ownsRow B 2 1 v l.length (l.map (Value.int .i64))
def Ec(w:qM)(ad:Option Addr)(l:List Int):Prop:=Bl w ad l.length (l.map (Value.int .i64))
theorem Ec.below{w w':qM}{ad:Option Addr}{l:List Int}(h:Ec w ad l)(hb:Below w w w'):Ec w' ad l:=Bl.below h hb
theorem AI.lies{w:qM}{B c:Nat}{a:Option Addr}{l:List Int}(h:AI w B (qV a l.length c) l):Ec w a l:=Bl.own h
theorem AI.nil(w:qM)(B:Nat):AI w B (qV none 0 0) []:=World.ownsRow_nil _ _ _ _
theorem AI.made(w:qM)(B:Nat)(hb:B<=w.heap.size):AI (w.alloc (.cells #[] 2)) B (qV (w) 0 0) []:=World.ownsRow_made w #[] 0 hb (Nat.zero_le _) rfl
theorem AI.alloc{w:qM}{B:Nat}{v:qB}{l:List Int}(h:AI w B v l)(o:Obj):AI (w.alloc o) B v l:=qq.alloc h o
def AZ(l:List Int)(i:Nat):Int:=l.getD i 0
theorem Ec.ints{w:qM}{ad:Option Addr}{l:List Int}(h:Ec w ad l):Bp w ad l.length (AZ l):=fun hn=>by
 obtain⟨b,off,e,hlt,hc⟩:=h hn;exact⟨b,off,e,hlt,fun i hi=>hc i _ (by simp[AZ,hi])⟩
theorem Bp.intL{w:qM}{ad:Option Addr}{n:Nat}{h:Nat->Int}(hc:Bp w ad n h):Ec w ad ((List.range n).map h):=fun hn=>by
 have hn':0<n:=by simpa using hn
 obtain⟨b,off,e,hlt,hcc⟩:=hc hn';refine⟨b,off,e,hlt,fun j u hu=>?_⟩;by_cases hj:j<n
 ·simp[hj]at hu;rw[<-hu];exact hcc j hj
 ·simp[hj]at hu
theorem Ep{ops:Array Oper}{rest:List Oper}{o:Oper}{a:Act}{Q:Exit->Act->qM->Prop}(w:qM)(hgd:o.guard=none)(s x:Operand)
 (ho:o.op= .call {callee:= .builtin .append,args:=#[s,x],argTypes:=#[51,51]})
 (B:Nat)(v:qB)(l:List Int)(hs:a.eval s=v)(hown:AI w B v l)(ad:Option Addr)(m c:Nat)(l':List Int)(hx:a.eval x= qV ad m c)(hm':l'.length=m)(hc:Ec w ad l')
 (hm:l.length+m<=4194304)(hB:B<=w.heap.size)
 (h:∀a' c' w',AI w' B (qV a' (l++l').length c') (l++l')->w.grownBy w' v.ownBlock->((Value.slice a' (l++l').length c').ownBlock=v.ownBlock∨(Value.slice a' (l++l').length c').ownBlock=some w)->wpList prog ops Q rest (a.put o.dst (qV a' (l++l').length c')) w'):wpList prog ops Q (o::rest) a w:=by
 subst hm';refine wpList_plain hgd fun _ hK=>DO underlying51 Tryz.info2 rfl qQ w s x ho B v l.length _ hs hown ad l'.length c _ hx sI hc (fun u hu=>by obtain⟨y,_,rfl⟩:=List.mem_map.1 hu;rfl) hm qQ hB fun a' c' w' h2 h3 h4=>hK _ _ ?_;rw[<-List.map_append,<-jU]at h2;rw[<-jU]at h4 ⊢;exact h a' c' w' h2 h3 h4
theorem Bf{ops:Array Oper}{rest:List Oper}{o:Oper}{a:Act}{Q:Exit->Act->qM->Prop}(w:qM)(hgd:o.guard=none)(s x:Operand)
 (ho:o.op= .call {callee:= .builtin .append,args:=#[s,x],argTypes:=#[51,51]})
 (B:Nat)(v:qB)(l:List Int)(hs:a.eval s=v)(hown:AI w B v l)(ad:Option Addr)(m c:Nat)(l':List Int)(hx:a.eval x= qV ad m c)(hm':l'.length=m)(hc:Ec w ad l')(R:List Int)(hR:R=l++l')
 (hm:R.length<=4194304)(hB:B<=w.heap.size)
 (h:∀a' c' w',AI w' B (qV a' R.length c') R->w.grownBy w' v.ownBlock->((Value.slice a' R.length c').ownBlock=v.ownBlock∨(Value.slice a' R.length c').ownBlock=some w)->wpList prog ops Q rest (a.put o.dst (qV a' R.length c')) w'):wpList prog ops Q (o::rest) a w:=by
 subst hR;exact Ep w hgd s x ho B v l hs hown ad m c l' hx hm' hc (by rw[jU]at hm;omega) hB h
theorem Ec.take{w:qM}{b off:Nat}{l:List Int}(h:Ec w (some ⟨b,off,none⟩) l)(k:Nat):Ec w (some ⟨b,off,none⟩) (l.take k):=fun hn=>by
 have hl:0<l.length:=by simp at hn;omega
 obtain⟨b',off',e,hlt,hc⟩:=h hl;cases e;refine⟨b,off,rfl,hlt,fun j u hu=>hc j u ?_⟩;rw[List.map_take,List.getElem?_take]at hu;split at hu
 ·exact hu
 ·cases hu
theorem Ec.drop{w:qM}{b off:Nat}{l:List Int}(h:Ec w (some ⟨b,off,none⟩) l)(k:Nat):Ec w (some ⟨b,off+k,none⟩) (l.drop k):=fun hn=>by
 have hl:0<l.length:=by simp at hn;omega
 obtain⟨b',off',e,hlt,hc⟩:=h hl;cases e;refine⟨b,off+k,rfl,hlt,fun j u hu=>?_⟩;rw[List.map_drop,List.getElem?_drop]at hu;have:=hc (k+j) u hu;rw[Nat.add_assoc];exact this
theorem Ec.one{w:qM}(x:Int):Ec (w.alloc (.cells #[.int .i64 x] 2)) (some ⟨w,0,none⟩) [x]:=fun _=>
 ⟨w,0,rfl,by simp,fun j u hu=>by
   cases j with
   |zero=>simp at hu;subst hu;simp
   |succ j=>simp at hu⟩
theorem Ec.none(w:qM)(ad:Option Addr):Ec w ad []:=fun h=>by simp at h
open Go.Value renaming int→iT
open Go.IntKind renaming i64→qH
open _root_.Nat renaming add_assoc→jv,le_trans→qj,zero_add→jx
open Go.World renaming ownsRow_nil→zG,ownsRow_made→zW
open Go.Result renaming andThen_ok→zP
open _root_.List renaming map_toArray→xZ,map_nil→xB,mem_flatten→xH,mem_map→jy,mem_cons→kK,not_mem_nil→kM,getElem_mem→qk
section
variable {l:List Ae}{w w':qM}{B B' c:Nat}{v:qB}{row:Option Nat}{a:Option Addr}
theorem Tryz.info53:(prog.info? 53).map (fun i=>(i.zero,i.size,i.bytes))=some (some (.agg #[iT qH 0,iT qH 0,qV none 0 0,iT qH 0,qV none 0 0,qV none 0 0,iT qH 0]),7,104):=by kernel_rfl
theorem Tryz.info59:(prog.info? 59).map (fun i=>(i.zero,i.size,i.bytes))=some (some (.agg #[iT qH 0,iT qH 0,iT qH 0,iT qH 0,qV none 0 0,.string ⟨#[]⟩,qV none 0 0,qV none 0 0,iT qH 0,qV none 0 0]),10,152):=by kernel_rfl
def Ae.cs(v:Ae):List qB:=[iT qH v.id,iT qH v.b1,v.c1.val,iT qH v.b2,v.c2.val,v.own.val,iT qH v.made]
def Cn(l:List Ae):List qB:=(l.map Ae.cs).flatten
theorem Wd(l:List Ae):(Cn l).length=l.length*7:=by
 induction l with
 |nil=>rfl
 |cons x r ih=>simp[Cn,Ae.cs]at *;omega
theorem Ql(l r:List Ae):Cn (l++r)=Cn l++Cn r:=by simp[Cn]
theorem VM:∀u∈Cn l,u.oneCell'=true:=fun u hu=>by
 simp only[Cn,xH,jy]at hu;obtain⟨_,⟨x,_,rfl⟩,h⟩:=hu;simp only[Ae.cs,kK,kM,or_false]at h;rcases h with rfl|rfl|rfl|rfl|rfl|rfl|rfl<;>rfl
theorem VY:∀{i:Nat} (hi:i<l.length),(Cn l)[i*7]? =some (iT qH (l[i]).id)/\(Cn l)[i*7+1]? =some (iT qH (l[i]).b1)/\(Cn l)[i*7+2]? =some ((l[i]).c1.val)/\(Cn l)[i*7+3]? =some (iT qH (l[i]).b2)/\(Cn l)[i*7+4]? =some ((l[i]).c2.val)/\(Cn l)[i*7+5]? =some ((l[i]).own.val)/\(Cn l)[i*7+6]? =some (iT qH (l[i]).made):=by
 induction l with
 |nil=>intro i hi;simp at hi
 |cons x r ih=>
  intro i hi;have e:Cn (x::r)=Value.int .i64 x.id::Value.int .i64 x.b1::x.c1.val::Value.int .i64 x.b2::x.c2.val::x.own.val::Value.int .i64 x.made::Cn r:=by simp[Cn,Ae.cs]
  rw[e];cases i with
  |zero=>simp
  |succ i=>
   have h:=ih (i:=i) (by simpa using hi);have e1:(i+1)*7=i*7+1+1+1+1+1+1+1:=qQ;rw[e1];simpa using h
def Du(w:qM)(B:Nat)(v:qB)(l:List Ae):Prop:=w.ownsRow B 53 7 v l.length (Cn l)
def Ae.z:Ae:=⟨0,0,⟨none,0,0,fun _=>0,fun _=>0⟩,0,⟨none,0,0,fun _=>0,fun _=>0⟩,⟨none,0,0,fun _=>0⟩,0⟩
def Be(l:List Ae)(i:Nat):Ae:=l.getD i Ae.z
theorem Du.nil(w:qM)(B:Nat):Du w B (qV none 0 0) []:=zG _ _ _ _
theorem Du.made(w:qM)(B:Nat)(hb:B<=w.heap.size):Du (w.alloc (.cells #[] 53)) B (qV (w.heap.size) 0 0) []:=zW w #[] 0 hb (qy _) rfl
theorem Du.shape(h:Du w B v l):∃a c,v= qV a l.length c:=CG h
theorem Du.grown(h:Du w B v l)(hg:w.grownBy w' row)(hne:v.ownBlock=none∨v.ownBlock≠row):Du w' B v l:=qq.kept h hg hne
theorem Du.below(h:Du w B v l)(hb:Below w.heap.size w w'):Du w' B v l:=qq.kept (row:=none) h ⟨hb.os,hb.tape,hb.output,hb.size,fun k hk _=>hb.block k hk⟩ (by cases v.ownBlock<;>simp)
theorem Du.base(h:Du w B v l)(hB:B'<=B):Du w B' v l:=by
 refine⟨h.1,?_⟩;rcases h.2 with hn|⟨g,cap,cur,hv,hbg,rest⟩
 ·exact .inl hn
 ·exact .inr ⟨g,cap,cur,hv,qj hB hbg,rest⟩
theorem Du.lies(h:Du w B (qV a l.length c) l)(hat:∀x∈l,x.at w):Jb w a l.length (Be l):=fun hn=>by
 obtain⟨b,off,e,hlt,hc⟩:=Bl.own h hn;refine⟨b,off,e,hlt,fun i hi=>?_⟩;have g:=VY hi;have e1:Be l i=l[i]:=by simp[Be,hi]
 rw[e1];exact⟨⟨by have:=hc _ _ (g.1);exact this,by have:=hc _ _ (g.2.1);rw[<-jv]at this;exact this,by have:=hc _ _ (g.2.2.1);rw[<-jv]at this;exact this,by have:=hc _ _ (g.2.2.2.1);rw[<-jv]at this;exact this,by have:=hc _ _ (g.2.2.2.2.1);rw[<-jv]at this;exact this,by have:=hc _ _ (g.2.2.2.2.2.1);rw[<-jv]at this;exact this,by have:=hc _ _ (g.2.2.2.2.2.2);rw[<-jv]at this;exact this⟩,hat _ (qk hi)⟩
theorem Du.one(w:qM)(x:Ae):Bl (w.alloc (.cells #[iT qH x.id,iT qH x.b1,x.c1.val,iT qH x.b2,x.c2.val,x.own.val,iT qH x.made] 53)) (some ⟨w.heap.size,0,none⟩) 1 (Cn [x]):=fun _=>by
 refine⟨w.heap.size,0,rfl,by simp,fun j u hu=>?_⟩;have h:=Ag.new w (.cells #[iT qH x.id,iT qH x.b1,x.c1.val,iT qH x.b2,x.c2.val,x.own.val,iT qH x.made] 53);have e:Cn [x]=[iT qH x.id,iT qH x.b1,x.c1.val,iT qH x.b2,x.c2.val,x.own.val,iT qH x.made]:=by simp[Cn,Ae.cs]
 rw[e]at hu;rw[jx];refine h.c0 j ?_;rw[<-hu];simp only[List.getElem?_toArray]
theorem Jv(w:qM)(tt:TypeId)(B:Nat)(v:qB)(l:List Ae)(hown:Du w B v l)(ad:Option Addr)(c:Nat)(x:Ae)(hc:Bl w ad 1 (Cn [x]))(hn:l.length<=1048576)(hB:B<=w.heap.size):
 ∃a' c' w',(Builtin.append_ #[24,24] tt #[v,qV ad 1 c]).run prog w= .ok (qV a' (l.length+1) c') w'/\Du w' B (qV a' (l.length+1) c') (l++[x])/\w.grownBy w' v.ownBlock:=by
 obtain⟨a',c',w',h1,h2,h3,_⟩:=DY underlying24 Tryz.info53 rfl qQ w tt B v l.length (Cn l) hown ad 1 c (Cn [x]) (Wd [x]) hc VM qQ qQ hB;refine⟨a',c',w',h1,?_,h3⟩;unfold Du;rw[jU,Ql];exact h2
theorem Lw{ops:Array Oper}{rest:List Oper}{oo:Oper}{a:Act}{Q:Exit->Act->qM->Prop}(w:qM)(hgd:oo.guard=none)(s x:Operand)
 (ho:oo.op= .call {callee:= .builtin .append,args:=#[s,x],argTypes:=#[24,24]})
 (B:Nat)(v:qB)(l:List Ae)(hs:a.eval s=v)(hown:Du w B v l)(ad:Option Addr)(c:Nat)(y:Ae)(hx:a.eval x= qV ad 1 c)(hc:Bl w ad 1 (Cn [y]))(hn:l.length<=1048576)(hB:B<=w.heap.size)
 (h:∀a' c' w',Du w' B (qV a' (l.length+1) c') (l++[y])->w.grownBy w' v.ownBlock->wpList prog ops Q rest (a.put oo.dst (qV a' (l.length+1) c')) w'):wpList prog ops Q (oo::rest) a w:=by
 refine wpList_plain hgd fun K hK=>?_;obtain⟨a',c',w',hr,h2,h3⟩:=Jv w oo.type B v l hown ad c y hc hn hB;unfold Oper.wp execOp;simp only[ho,resolve,invoke,builtin,Sem.run_bind,Sem.run_pure,zP,xZ,xG,xB,hs,hx,hr];exact hK _ _ (h a' c' w' h2 h3)
theorem Jj{ops:Array Oper}{oo:Oper}{a:Act}{w:qM}{K:Act->qM->Prop}{Q:Exit->Act->qM->Prop}{E:Prop}(hgd:oo.guard=none)(s x:Operand)
 (ho:oo.op= .call {callee:= .builtin .append,args:=#[s,x],argTypes:=#[24,24]})
 (B:Nat)(v:qB)(l:List Ae)(hs:a.eval s=v)(hown:Du w B v l)(ad:Option Addr)(c:Nat)(y:Ae)(hx:a.eval x= qV ad 1 c)(hc:Bl w ad 1 (Cn [y]))(hn:l.length<=1048576)(hB:B<=w.heap.size)
 (h:∀a' c' w',Du w' B (qV a' (l.length+1) c') (l++[y])->w.grownBy w' v.ownBlock->K (a.put oo.dst (qV a' (l.length+1) c')) w'):
 if jW oo (yielded ops a.tmps)=true then Oper.wp prog oo a w K Q else E:=by
 have hw:jW oo (yielded ops a.tmps)=true:=by simp[jW,hgd]
 rw[if_pos hw];obtain⟨a',c',w',hr,h2,h3⟩:=Jv w oo.type B v l hown ad c y hc hn hB;unfold Oper.wp execOp;simp only[ho,resolve,invoke,builtin,Sem.run_bind,Sem.run_pure,zP,xZ,xG,xB,hs,hx,hr];exact h a' c' w' h2 h3
def Ab.cs(v:Ab):List qB:=[iT qH v.id,iT qH v.kind,iT qH v.up,iT qH v.b1,v.c1.val,.string v.data,v.jA.val,v.own.val,iT qH v.b2,v.c2.val]
def Ax(l:List Ab):List qB:=(l.map Ab.cs).flatten
theorem GV(l:List Ab):(Ax l).length=l.length*10:=by
 induction l with
 |nil=>rfl
 |cons x r ih=>simp[Ax,Ab.cs]at *;omega
theorem Js(l r:List Ab):Ax (l++r)=Ax l++Ax r:=by simp[Ax]
theorem Nh{l:List Ab}:∀u∈Ax l,u.oneCell'=true:=fun u hu=>by
 simp only[Ax,xH,jy]at hu;obtain⟨_,⟨x,_,rfl⟩,h⟩:=hu;simp only[Ab.cs,kK,kM,or_false]at h;rcases h with rfl|rfl|rfl|rfl|rfl|rfl|rfl|rfl|rfl|rfl<;>rfl
theorem MV{l:List Ab}:∀{i:Nat} (hi:i<l.length),(Ax l)[i*10]? =some (iT qH (l[i]).id)/\(Ax l)[i*10+1]? =some (iT qH (l[i]).kind)/\(Ax l)[i*10+2]? =some (iT qH (l[i]).up)/\(Ax l)[i*10+3]? =some (iT qH (l[i]).b1)/\(Ax l)[i*10+4]? =some ((l[i]).c1.val)/\(Ax l)[i*10+5]? =some (.string (l[i]).data)/\(Ax l)[i*10+6]? =some ((l[i]).jA.val)/\(Ax l)[i*10+7]? =some ((l[i]).own.val)/\(Ax l)[i*10+8]? =some (iT qH (l[i]).b2)/\(Ax l)[i*10+9]? =some ((l[i]).c2.val):=by
 induction l with
 |nil=>intro i hi;simp at hi
 |cons x r ih=>
  intro i hi;have e:Ax (x::r)=Value.int .i64 x.id::Value.int .i64 x.kind::Value.int .i64 x.up::Value.int .i64 x.b1::x.c1.val::Value.string x.data::x.jA.val::x.own.val::Value.int .i64 x.b2::x.c2.val::Ax r:=by simp[Ax,Ab.cs]
  rw[e];cases i with
  |zero=>simp
  |succ i=>
   have h:=ih (i:=i) (by simpa using hi);have e1:(i+1)*10=i*10+1+1+1+1+1+1+1+1+1+1:=qQ;rw[e1];simpa using h
def AW(w:qM)(B:Nat)(v:qB)(l:List Ab):Prop:=w.ownsRow B 59 10 v l.length (Ax l)
def Ab.z:Ab:=⟨0,0,0,0,⟨none,0,0,fun _=>0,fun _=>0⟩,⟨#[]⟩,⟨none,0,0,fun _=>⟨#[]⟩⟩,⟨none,0,0,fun _=>0⟩,0,⟨none,0,0,fun _=>0,fun _=>0⟩⟩
def Aa(l:List Ab)(i:Nat):Ab:=l.getD i Ab.z
theorem AW.nil(w:qM)(B:Nat):AW w B (qV none 0 0) []:=zG _ _ _ _
theorem AW.made(w:qM)(B:Nat)(hb:B<=w.heap.size):AW (w.alloc (.cells #[] 59)) B (qV (w.heap.size) 0 0) []:=zW w #[] 0 hb (qy _) rfl
theorem AW.shape{l:List Ab}(h:AW w B v l):∃a c,v= qV a l.length c:=CG h
theorem AW.grown{l:List Ab}(h:AW w B v l)(hg:w.grownBy w' row)(hne:v.ownBlock=none∨v.ownBlock≠row):AW w' B v l:=qq.kept h hg hne
theorem AW.below{l:List Ab}(h:AW w B v l)(hb:Below w.heap.size w w'):AW w' B v l:=qq.kept (row:=none) h ⟨hb.os,hb.tape,hb.output,hb.size,fun k hk _=>hb.block k hk⟩ (by cases v.ownBlock<;>simp)
theorem AW.base{l:List Ab}(h:AW w B v l)(hB:B'<=B):AW w B' v l:=by
 refine⟨h.1,?_⟩;rcases h.2 with hn|⟨g,cap,cur,hv,hbg,rest⟩
 ·exact .inl hn
 ·exact .inr ⟨g,cap,cur,hv,qj hB hbg,rest⟩
theorem AW.lies{l:List Ab}(h:AW w B (qV a l.length c) l)(hat:∀x∈l,x.at w):Io w a l.length (Aa l):=fun hn=>by
 obtain⟨b,off,e,hlt,hc⟩:=Bl.own h hn;refine⟨b,off,e,hlt,fun i hi=>?_⟩;have g:=MV hi;have e1:Aa l i=l[i]:=by simp[Aa,hi]
 rw[e1];exact⟨⟨by have:=hc _ _ (g.1);exact this,by have:=hc _ _ (g.2.1);rw[<-jv]at this;exact this,by have:=hc _ _ (g.2.2.1);rw[<-jv]at this;exact this,by have:=hc _ _ (g.2.2.2.1);rw[<-jv]at this;exact this,by have:=hc _ _ (g.2.2.2.2.1);rw[<-jv]at this;exact this,by have:=hc _ _ (g.2.2.2.2.2.1);rw[<-jv]at this;exact this,by have:=hc _ _ (g.2.2.2.2.2.2.1);rw[<-jv]at this;exact this,by have:=hc _ _ (g.2.2.2.2.2.2.2.1);rw[<-jv]at this;exact this,by have:=hc _ _ (g.2.2.2.2.2.2.2.2.1);rw[<-jv]at this;exact this,by have:=hc _ _ (g.2.2.2.2.2.2.2.2.2);rw[<-jv]at this;exact this⟩,hat _ (qk hi)⟩
theorem AW.one(w:qM)(x:Ab):Bl (w.alloc (.cells #[iT qH x.id,iT qH x.kind,iT qH x.up,iT qH x.b1,x.c1.val,.string x.data,x.jA.val,x.own.val,iT qH x.b2,x.c2.val] 59)) (some ⟨w.heap.size,0,none⟩) 1 (Ax [x]):=fun _=>by
 refine⟨w.heap.size,0,rfl,by simp,fun j u hu=>?_⟩;have h:=Ag.new w (.cells #[iT qH x.id,iT qH x.kind,iT qH x.up,iT qH x.b1,x.c1.val,.string x.data,x.jA.val,x.own.val,iT qH x.b2,x.c2.val] 59);have e:Ax [x]=[iT qH x.id,iT qH x.kind,iT qH x.up,iT qH x.b1,x.c1.val,.string x.data,x.jA.val,x.own.val,iT qH x.b2,x.c2.val]:=by simp[Ax,Ab.cs]
 rw[e]at hu;rw[jx];refine h.c0 j ?_;rw[<-hu];simp only[List.getElem?_toArray]
theorem Jl(w:qM)(tt:TypeId)(B:Nat)(v:qB)(l:List Ab)(hown:AW w B v l)(ad:Option Addr)(c:Nat)(x:Ab)(hc:Bl w ad 1 (Ax [x]))(hn:l.length<=1048576)(hB:B<=w.heap.size):
 ∃a' c' w',(Builtin.append_ #[25,25] tt #[v,qV ad 1 c]).run prog w= .ok (qV a' (l.length+1) c') w'/\AW w' B (qV a' (l.length+1) c') (l++[x])/\w.grownBy w' v.ownBlock:=by
 obtain⟨a',c',w',h1,h2,h3,_⟩:=DY underlying25 Tryz.info59 rfl qQ w tt B v l.length (Ax l) hown ad 1 c (Ax [x]) (GV [x]) hc Nh qQ qQ hB;refine⟨a',c',w',h1,?_,h3⟩;unfold AW;rw[jU,Js];exact h2
theorem Da{ops:Array Oper}{rest:List Oper}{oo:Oper}{a:Act}{Q:Exit->Act->qM->Prop}(w:qM)(hgd:oo.guard=none)(s x:Operand)
 (ho:oo.op= .call {callee:= .builtin .append,args:=#[s,x],argTypes:=#[25,25]})
 (B:Nat)(v:qB)(l:List Ab)(hs:a.eval s=v)(hown:AW w B v l)(ad:Option Addr)(c:Nat)(y:Ab)(hx:a.eval x= qV ad 1 c)(hc:Bl w ad 1 (Ax [y]))(hn:l.length<=1048576)(hB:B<=w.heap.size)
 (h:∀a' c' w',AW w' B (qV a' (l.length+1) c') (l++[y])->w.grownBy w' v.ownBlock->wpList prog ops Q rest (a.put oo.dst (qV a' (l.length+1) c')) w'):wpList prog ops Q (oo::rest) a w:=by
 refine wpList_plain hgd fun K hK=>?_;obtain⟨a',c',w',hr,h2,h3⟩:=Jl w oo.type B v l hown ad c y hc hn hB;unfold Oper.wp execOp;simp only[ho,resolve,invoke,builtin,Sem.run_bind,Sem.run_pure,zP,xZ,xG,xB,hs,hx,hr];exact hK _ _ (h a' c' w' h2 h3)
theorem GH{ops:Array Oper}{oo:Oper}{a:Act}{w:qM}{K:Act->qM->Prop}{Q:Exit->Act->qM->Prop}{E:Prop}(hgd:oo.guard=none)(s x:Operand)
 (ho:oo.op= .call {callee:= .builtin .append,args:=#[s,x],argTypes:=#[25,25]})
 (B:Nat)(v:qB)(l:List Ab)(hs:a.eval s=v)(hown:AW w B v l)(ad:Option Addr)(c:Nat)(y:Ab)(hx:a.eval x= qV ad 1 c)(hc:Bl w ad 1 (Ax [y]))(hn:l.length<=1048576)(hB:B<=w.heap.size)
 (h:∀a' c' w',AW w' B (qV a' (l.length+1) c') (l++[y])->w.grownBy w' v.ownBlock->K (a.put oo.dst (qV a' (l.length+1) c')) w'):
 if jW oo (yielded ops a.tmps)=true then Oper.wp prog oo a w K Q else E:=by
 have hw:jW oo (yielded ops a.tmps)=true:=by simp[jW,hgd]
 rw[if_pos hw];obtain⟨a',c',w',hr,h2,h3⟩:=Jl w oo.type B v l hown ad c y hc hn hB;unfold Oper.wp execOp;simp only[ho,resolve,invoke,builtin,Sem.run_bind,Sem.run_pure,zP,xZ,xG,xB,hs,hx,hr];exact h a' c' w' h2 h3
end
variable {w w':World}{b ty N:Nat}{t:Ae}
def As.same(c d:As):Prop:=d.n=c.n/\d.f=c.f/\d.g=c.g
def AJ.same(c d:AJ):Prop:=d.n=c.n/\d.h=c.h
def Ae.same(t u:Ae):Prop:=u.id=t.id/\u.b1=t.b1/\t.c1.same u.c1/\u.b2=t.b2/\t.c2.same u.c2/\t.own.same u.own/\u.made=t.made
def As.row(w:World)(c:As):Prop:=∃b,c.a=some ⟨b,0,none⟩/\w.rowIs b 96 (c.n*2) (Dx c.f c.g)
def AJ.row(w:World)(c:AJ):Prop:=∃b,c.a=some ⟨b,0,none⟩/\w.rowIs b 2 c.n (fun i=> .int .i64 (c.h i))
def Ae.row(w:World)(t:Ae):Prop:=t.c1.row w/\t.c2.row w/\t.own.row w
theorem MW{G:Nat->Value}(h:w.rowIs b ty N G)(hb:Below w w w'):w'.rowIs b ty N G:=h.of_block (hb.block b h.lt)
theorem Fz{b' t t' N':Nat}{G G':Nat->Value}(h:w.rowIs b t N G)(h':w.rowIs b' t' N' G')(ht:t≠t'):b≠b':=fun e=>by
 subst e;obtain⟨c,e1,_⟩:=h;obtain⟨c',e2,_⟩:=h';rw[e1]at e2;simp only[Option.some.injEq,Obj.cells.injEq]at e2;exact ht e2.2.1
theorem As.row.below{c:As}(h:c.row w)(hb:Below w w w'):c.row w':=by
 obtain⟨b,e,hr⟩:=h;exact⟨b,e,MW hr hb⟩
theorem AJ.row.below{c:AJ}(h:c.row w)(hb:Below w w w'):c.row w':=by
 obtain⟨b,e,hr⟩:=h;exact⟨b,e,MW hr hb⟩
theorem Ae.row.below(h:t.row w)(hb:Below w w w'):t.row w':=⟨As.row.below h.1 hb,As.row.below h.2.1 hb,AJ.row.below h.2.2 hb⟩
theorem Ae.row.put{P:Nat}{G:Nat->Value}(h:t.row w)(hP:w.rowIs P ty N G)(h1:ty≠96)(h2:ty≠2)(i:Nat)(v:Value):t.row (w.setCell ⟨P,i,none⟩ v):=by
 obtain⟨⟨b1,e1,r1⟩,⟨b2,e2,r2⟩,⟨b3,e3,r3⟩⟩:=h;exact⟨⟨b1,e1,r1.setOther (Fz r1 hP h1.symm) v⟩,⟨b2,e2,r2.setOther (Fz r2 hP h1.symm) v⟩,⟨b3,e3,r3.setOther (Fz r3 hP h2.symm) v⟩⟩
theorem Ae.row.at(h:t.row w)(hs:t.small):t.at w:=by
 obtain⟨⟨b1,e1,r1⟩,⟨b2,e2,r2⟩,⟨b3,e3,r3⟩⟩:=h;refine⟨⟨by unfold maxLen;have:=hs.1;omega,?_⟩,⟨by unfold maxLen;have:=hs.2.1;omega,?_⟩,⟨by unfold maxLen;have:=hs.2.2;omega,?_⟩⟩
 ·rw[e1];exact Bd.row r1
 ·rw[e2];exact Bd.row r2
 ·rw[e3];exact Bp.row r3
structure G7(G:Nat->Value)(o:Nat)(t:Ae):Prop where
 g0:G o= .int .i64 t.id
 g1:G (o+1)= .int .i64 t.b1
 g2:G (o+2)=t.c1.val
 g3:G (o+3)= .int .i64 t.b2
 g4:G (o+4)=t.c2.val
 g5:G (o+5)=t.own.val
 g6:G (o+6)= .int .i64 t.made
theorem G7.cells{G:Nat->Value}{o:Nat}(hr:w.rowIs b ty N G)(h:G7 G o t)(ho:o+7<=N):FA w b o t:=
 ⟨(hr.cell qQ).trans (congrArg some h.g0),(hr.cell qQ).trans (congrArg some h.g1),(hr.cell qQ).trans (congrArg some h.g2),(hr.cell qQ).trans (congrArg some h.g3),(hr.cell qQ).trans (congrArg some h.g4),(hr.cell qQ).trans (congrArg some h.g5),(hr.cell qQ).trans (congrArg some h.g6)⟩
open Go.Obj renaming cells→qG
open Go.World renaming setCell→zX
open _root_.Array renaming getElem?_modify→kY
variable {W:World}{P t i:Nat}
theorem Tryz.info9:(prog.info? 9).map (fun i=>(i.zero,i.size,i.bytes))=some (some (.string ⟨#[]⟩),1,16):=by kernel_rfl
def AE.row(w:World)(c:AE):Prop:=∃b,c.a=some ⟨b,0,none⟩/\w.rowIs b 9 c.n (fun i=> .string (c.f i))
theorem Ag.jB{cs:Array Value}(h:Ag W P (qG cs t))(v:Value):Ag (W.setCell ⟨P,i,none⟩ v) P (qG (cs.setIfInBounds i v) t):=by
 unfold Ag at *;simp[zX,kY,h]
theorem Ag.jC{cs:Array Value}(h:Ag W P (qG cs t))(i:Nat):W.frozen? ⟨P,i,none⟩=false:=by
 unfold Ag at h;simp[World.frozen?,h]
theorem Ag.other{Q:Nat}{o:Obj}(h:Ag W P o)(hne:Q≠P)(v:Value):Ag (W.setCell ⟨Q,i,none⟩ v) P o:=by
 unfold Ag at *;simp[zX,kY,h,hne]
theorem Ag.all10{z0 z1 z2 z3 z4 z5 z6 z7 z8 z9:Value}(h:Ag W P (qG #[z0,z1,z2,z3,z4,z5,z6,z7,z8,z9] t))(x0 x1 x2 x3 x4 x5 x6 x7 x8 x9:Value):
 Ag ((((((((((W.setCell ⟨P,0,none⟩ x0).setCell ⟨P,1,none⟩ x1).setCell ⟨P,2,none⟩ x2).setCell ⟨P,3,none⟩ x3).setCell ⟨P,4,none⟩ x4).setCell ⟨P,5,none⟩ x5).setCell ⟨P,6,none⟩ x6).setCell ⟨P,7,none⟩ x7).setCell ⟨P,8,none⟩ x8).setCell ⟨P,9,none⟩ x9) P (qG #[x0,x1,x2,x3,x4,x5,x6,x7,x8,x9] t):=by
 have h0:Ag _ P (qG #[x0,z1,z2,z3,z4,z5,z6,z7,z8,z9] t):=h.jB (i:=0) x0;have h1:Ag _ P (qG #[x0,x1,z2,z3,z4,z5,z6,z7,z8,z9] t):=h0.jB (i:=1) x1;have h2:Ag _ P (qG #[x0,x1,x2,z3,z4,z5,z6,z7,z8,z9] t):=h1.jB (i:=2) x2;have h3:Ag _ P (qG #[x0,x1,x2,x3,z4,z5,z6,z7,z8,z9] t):=h2.jB (i:=3) x3;have h4:Ag _ P (qG #[x0,x1,x2,x3,x4,z5,z6,z7,z8,z9] t):=h3.jB (i:=4) x4;have h5:Ag _ P (qG #[x0,x1,x2,x3,x4,x5,z6,z7,z8,z9] t):=h4.jB (i:=5) x5;have h6:Ag _ P (qG #[x0,x1,x2,x3,x4,x5,x6,z7,z8,z9] t):=h5.jB (i:=6) x6;have h7:Ag _ P (qG #[x0,x1,x2,x3,x4,x5,x6,x7,z8,z9] t):=h6.jB (i:=7) x7;have h8:Ag _ P (qG #[x0,x1,x2,x3,x4,x5,x6,x7,x8,z9] t):=h7.jB (i:=8) x8;exact h8.jB (i:=9) x9

variable {w w':World}{t:Ab}
def AE.same(c d:AE):Prop:=d.n=c.n/\d.f=c.f
def Ab.same(t u:Ab):Prop:=u.id=t.id/\u.kind=t.kind/\u.up=t.up/\u.b1=t.b1/\t.c1.same u.c1/\u.data=t.data/\t.jA.same u.jA/\t.own.same u.own/\u.b2=t.b2/\t.c2.same u.c2
def Ab.row(w:World)(t:Ab):Prop:=t.c1.row w/\t.jA.row w/\t.own.row w/\t.c2.row w
theorem AE.row.below{c:AE}(h:c.row w)(hb:Below w w w'):c.row w':=by
 obtain⟨b,e,hr⟩:=h;exact⟨b,e,MW hr hb⟩
theorem Ab.row.below(h:t.row w)(hb:Below w w w'):t.row w':=⟨As.row.below h.1 hb,AE.row.below h.2.1 hb,AJ.row.below h.2.2.1 hb,As.row.below h.2.2.2 hb⟩
theorem Ab.row.put{P ty N:Nat}{G:Nat->Value}(h:t.row w)(hP:w.rowIs P ty N G)(h1:ty≠96)(h2:ty≠2)(h3:ty≠9)(i:Nat)(v:Value):t.row (w.setCell ⟨P,i,none⟩ v):=by
 obtain⟨⟨b1,e1,r1⟩,⟨b2,e2,r2⟩,⟨b3,e3,r3⟩,⟨b4,e4,r4⟩⟩:=h;exact⟨⟨b1,e1,r1.setOther (Fz r1 hP h1.symm) v⟩,⟨b2,e2,r2.setOther (Fz r2 hP h3.symm) v⟩,⟨b3,e3,r3.setOther (Fz r3 hP h2.symm) v⟩,⟨b4,e4,r4.setOther (Fz r4 hP h1.symm) v⟩⟩
structure gp(G:Nat->Value)(o:Nat)(u:Ab):Prop where
 g0:G (o)= .int .i64 u.id
 g1:G (o+1)= .int .i64 u.kind
 g2:G (o+2)= .int .i64 u.up
 g3:G (o+3)= .int .i64 u.b1
 g4:G (o+4)=u.c1.val
 g5:G (o+5)= .string u.data
 g6:G (o+6)=u.jA.val
 g7:G (o+7)=u.own.val
 g8:G (o+8)= .int .i64 u.b2
 g9:G (o+9)=u.c2.val
variable {w w':World}{a:Option Addr}{n P ty N:Nat}
def Im(w:World)(a:Option Addr)(n:Nat)(T:Nat->Ae):Prop:=∃b G,a=some ⟨b,0,none⟩/\w.rowIs b 53 (n*7) G/\∀j,j<n->G7 G (j*7) (T j)/\(T j).row w
def Is(w:World)(a:Option Addr)(n:Nat)(T:Nat->Ab):Prop:=∃b G,a=some ⟨b,0,none⟩/\w.rowIs b 59 (n*10) G/\∀j,j<n->gp G (j*10) (T j)/\(T j).row w
theorem Im.below{T:Nat->Ae}(h:Im w a n T)(hb:Below w w w'):Im w' a n T:=by
 obtain⟨b,G,e,hr,hj⟩:=h;exact⟨b,G,e,MW hr hb,fun j h=>⟨(hj j h).1,Ae.row.below (hj j h).2 hb⟩⟩
theorem Is.below{T:Nat->Ab}(h:Is w a n T)(hb:Below w w w'):Is w' a n T:=by
 obtain⟨b,G,e,hr,hj⟩:=h;exact⟨b,G,e,MW hr hb,fun j h=>⟨(hj j h).1,Ab.row.below (hj j h).2 hb⟩⟩
theorem Im.put{T:Nat->Ae}{G:Nat->Value}(h:Im w a n T)(hP:w.rowIs P ty N G)(h1:ty≠96)(h2:ty≠2)(h4:ty≠53)(i:Nat)(v:Value):Im (w.setCell ⟨P,i,none⟩ v) a n T:=by
 obtain⟨b,G',e,hr,hj⟩:=h;exact⟨b,G',e,hr.setOther (Fz hr hP h4.symm) v,fun j h=>⟨(hj j h).1,Ae.row.put (hj j h).2 hP h1 h2 i v⟩⟩
theorem Is.put{T:Nat->Ab}{G:Nat->Value}(h:Is w a n T)(hP:w.rowIs P ty N G)(h1:ty≠96)(h2:ty≠2)(h3:ty≠9)(h4:ty≠59)(i:Nat)(v:Value):Is (w.setCell ⟨P,i,none⟩ v) a n T:=by
 obtain⟨b,G',e,hr,hj⟩:=h;exact⟨b,G',e,hr.setOther (Fz hr hP h4.symm) v,fun j h=>⟨(hj j h).1,Ab.row.put (hj j h).2 hP h1 h2 h3 i v⟩⟩
theorem Ag.row{W:World}{t:Nat}{cs:Array Value}(h:Ag W P (.cells cs t)):W.rowIs P t cs.size (fun i=>cs[i]?.getD undef):=⟨cs,h,rfl,fun i hi=>by simp[hi]⟩
def Av.same(k l:Av):Prop:=l.tn=k.tn/\(∀j,j<k.tn->(k.T j).same (l.T j))/\l.on=k.on/\(∀j,j<k.on->(k.O j).same (l.O j))
def Av.row(w:World)(k:Av):Prop:=Im w k.ta k.tn k.T/\Is w k.oa k.on k.O
variable {w:World}{t:Ab}{k:Av}{a:Option Addr}{n:Nat}
theorem AE.row.at{c:AE}(h:c.row w)(hs:c.small):c.at w:=by
 obtain⟨b,e,hr⟩:=h;refine⟨by unfold maxLen;have:=hs.1;omega,fun _=>⟨b,0,e,hr.lt,fun i hi=>?_⟩,fun i hi=>by unfold maxLen;have:=hs.2 i hi;omega⟩;rw[jx];exact hr.cell hi
theorem Ab.row.at(h:t.row w)(hs:t.small):t.at w:=by
 obtain⟨⟨b1,e1,r1⟩,r2,⟨b3,e3,r3⟩,⟨b4,e4,r4⟩⟩:=h;obtain⟨s1,s2,s3,s4,s5⟩:=hs;refine⟨⟨by unfold maxLen;omega,?_⟩,AE.row.at r2 s3,⟨by unfold maxLen;omega,?_⟩,⟨by unfold maxLen;omega,?_⟩,by unfold maxLen;omega⟩
 ·rw[e1];exact Bd.row r1
 ·rw[e3];exact Bp.row r3
 ·rw[e4];exact Bd.row r4
theorem Ae.same.small{t u:Ae}(h:t.same u)(hs:t.small):u.small:=by
 obtain⟨_,_,⟨e1,_⟩,_,⟨e2,_⟩,⟨e3,_⟩,_⟩:=h;unfold Ae.small at *;rw[e1,e2,e3];exact hs
theorem Ab.same.small{u:Ab}(h:t.same u)(hs:t.small):u.small:=by
 obtain⟨_,_,_,_,⟨e1,_⟩,e2,⟨e3,e4⟩,⟨e5,_⟩,_,⟨e6,_⟩⟩:=h;unfold Ab.small AE.small at *;rw[e1,e2,e3,e4,e5,e6];exact hs
theorem Av.same.small{l:Av}(h:k.same l)(hs:k.small):l.small:=by
 obtain⟨e1,h1,e2,h2⟩:=h;obtain⟨⟨n1,s1⟩,⟨n2,s2⟩⟩:=hs;unfold Av.small;rw[e1,e2];exact⟨⟨n1,fun i hi=>Ae.same.small (h1 i hi) (s1 i hi)⟩,⟨n2,fun i hi=>Ab.same.small (h2 i hi) (s2 i hi)⟩⟩
theorem gp.cells{b ty N:Nat}{G:Nat->Value}{o:Nat}(hr:w.rowIs b ty N G)(h:gp G o t)(ho:o+10<=N):Di w b o t:=
 ⟨(hr.cell qQ).trans (congrArg some h.g0),(hr.cell qQ).trans (congrArg some h.g1),(hr.cell qQ).trans (congrArg some h.g2),(hr.cell qQ).trans (congrArg some h.g3),(hr.cell qQ).trans (congrArg some h.g4),(hr.cell qQ).trans (congrArg some h.g5),(hr.cell qQ).trans (congrArg some h.g6),(hr.cell qQ).trans (congrArg some h.g7),(hr.cell qQ).trans (congrArg some h.g8),(hr.cell qQ).trans (congrArg some h.g9)⟩
theorem Im.at{T:Nat->Ae}(h:Im w a n T)(hs:∀i,i<n->(T i).small):Jb w a n T:=fun _=>by
 obtain⟨b,G,e,hr,hj⟩:=h;refine⟨b,0,e,hr.lt,fun i hi=>⟨?_,Ae.row.at (hj i hi).2 (hs i hi)⟩⟩;rw[jx];exact G7.cells hr (hj i hi).1 qQ
theorem Is.at{T:Nat->Ab}(h:Is w a n T)(hs:∀i,i<n->(T i).small):Io w a n T:=fun _=>by
 obtain⟨b,G,e,hr,hj⟩:=h;refine⟨b,0,e,hr.lt,fun i hi=>⟨?_,Ab.row.at (hj i hi).2 (hs i hi)⟩⟩;rw[jx];exact gp.cells hr (hj i hi).1 qQ
theorem Av.row.at(h:k.row w)(hs:k.small):k.at w:=
 ⟨by unfold maxLen;have:=hs.1.1;omega,by unfold maxLen;have:=hs.2.1;omega,Im.at h.1 hs.1.2,Is.at h.2 hs.2.2⟩

def Ab.blk(t:Ab):Obj:= .cells #[t.id,t.kind,t.up,t.b1,t.c1.val,.string t.data,t.jA.val,t.own.val,t.b2,t.c2.val] 59

theorem one_byte(w:World)(x:Int)(h0:0<=x)(h1:x<256):
 (convert 22 9 (Value.slice (w) 1 1)).run prog (w.alloc (.cells #[.int .u8 x] 5))= .ok (.string ⟨#[UInt8.ofNat x.toNat]⟩) (w.alloc (.cells #[.int .u8 x] 5)):=by
 refine run_convert_bytes_back (P:=prog) (w.alloc (.cells #[.int .u8 x] 5)) 22 9 5 ⟨w,0,none⟩ 1 [UInt8.ofNat x.toNat] underlying22 underlying5 underlying9 fun j hj=>?_;obtain rfl:j=0:=by simpa using hj
 have e:(((UInt8.ofNat x.toNat).toNat:Nat):Int)=x:=by
  rw[UInt8.toNat_ofNat_of_lt' (by simp[UInt8.size];omega)];omega
 simp only[List.getElem_cons_zero,e];simp[Addr.add]
theorem KQ(b:UInt8)(l:List UInt8):((⟨#[b]⟩:ByteArray)++(⟨l.toArray⟩:ByteArray))=⟨(b::l).toArray⟩:=by
 apply ByteArray.ext;apply Array.ext';simp
variable {lo hi:Nat}
structure Mk(lo hi:Nat)(w w':World):Prop where
 os:w'.os=w.os
 tape:w'.tape=w.tape
 output:w'.output=w.output
 size:w.heap.size<=w'.heap.size
 block:∀k,k<w.heap.size->(k<lo∨hi<=k)->w'.heap[k]? =w.heap[k]?
 rows:∀b ty m F,w.rowIs b ty m F->∃F',w'.rowIs b ty m F'
theorem Mk.refl(lo hi:Nat)(w:World):Mk lo hi w w:=⟨rfl,rfl,rfl,Nat.le_refl _,fun _ _ _=>rfl,fun _ _ _ F h=>⟨F,h⟩⟩
theorem Mk.trans{a b c:World}(h:Mk lo hi a b)(k:Mk lo hi b c):Mk lo hi a c:=
 ⟨k.os.trans h.os,k.tape.trans h.tape,k.output.trans h.output,Nat.le_trans h.size k.size,fun j hj hn=>(k.block j (Nat.lt_of_lt_of_le hj h.size) hn).trans (h.block j hj hn),fun b ty m F hF=>by
   obtain⟨F',h'⟩:=h.rows b ty m F hF;exact k.rows b ty m F' h'⟩
theorem Mk.set{w wr:World}(h:Mk lo hi w wr){b:Nat}(h1:lo<=b)(h2:b<hi)(i:Nat)(v:Value):Mk lo hi w (wr.setCell ⟨b,i,none⟩ v):=
 ⟨h.os,h.tape,h.output,by rw[nblk_setCell];exact h.size,fun k hk hn=>(blk_setCell_other _ _ _ _ qJ).trans (h.block k hk hn),fun b' ty m F hF=>by
   obtain⟨F',h'⟩:=h.rows b' ty m F hF;by_cases e:b'=b
   ·subst e;exact⟨_,h'.set i v⟩
   ·exact⟨F',h'.setOther (a:=⟨b,i,none⟩) e v⟩⟩


end Go.Proofs.YtdaccbddcjlkpaaGreatDoor
