import Derived.Maps.Own
import Derived.Maps.OwnSet
import Derived.Test.YtbdagpckhfcneaaGreatDoorZ0r
set_option maxRecDepth 100000
set_option maxHeartbeats 4000000
namespace Go.Proofs.YtbdagpckhfcneaaGreatDoor
open Go.RowKit Go.Deep Go.Proofs.Tryz
def Eu(n:Nat)(f:Nat->ByteArray):Bool:=decide (n<=8)&&(List.range n).all (fun i=>By (f i) 40)
theorem MC{n:Nat}{f:Nat->ByteArray}(e:8<n):Eu n f=false:=by
 have:decide (n<=8)=false:=by simp;omega
 simp[Eu,this]
theorem Pz{n k:Nat}{f:Nat->ByteArray}(hk:k<n)(e:By (f k) 40=false):Eu n f=false:=by
 have:(List.range n).all (fun i=>By (f i) 40)=false:=by
  rw[List.all_eq_false];exact⟨k,List.mem_range.2 hk,by simp[e]⟩
 simp[Eu,this]
theorem Nk{n:Nat}{f:Nat->ByteArray}(e:∀i,i<n->By (f i) 40=true):Eu n f=decide (n<=8):=by
 have:(List.range n).all (fun i=>By (f i) 40)=true:=by
  rw[List.all_eq_true];intro i hi;exact e i (List.mem_range.1 hi)
 simp[Eu,this]
theorem SC(a:Option Addr)(n cap:Nat)(f:Nat->ByteArray)(w:World)(hn:n<=maxLen)(hc:EJ w a n f)(hz:∀i,i<n->(f i).size<=maxLen):
 Calls prog 122 #[.slice a n cap] w fun e w'=>e= .returned (.bool (Eu n f))/\Below w w w':=by
 unfold maxLen at hn;have HC:=hid hc;have HZ:=hid hz;clear hc hz;by_cases h8:8<n
 ·have h8':(8:Int)<(n:Int):=by omega
  go_enter func122,ntmps122
  go_wp2;go_ret;exact⟨Ah (MC h8).symm,Below.refl _ _⟩
 ·have h8':¬(8:Int)<(n:Int):=by omega
  go_enter func122,ntmps122
  go_wp2;go_loopw [10] (fun i wr=>∃k:Nat,k<=n/\i= .int .i64 k/\Hid (∀j,j<k->By (f j) 40=true)/\Below w w wr) (fun i _=>n-(intOf i).toNat)
  case atStart=>exact⟨0,Nat.zero_le _,rfl,hid (fun j hj=>by omega),Below.refl _ _⟩
  case round=>
   obtain⟨k,hk,rfl,HA,hB⟩:=hrel;by_cases hlt:k<n
   ·obtain⟨b,off,rfl,hlt0,hcc⟩:=HC.out.below hB (by omega);have g1:=hcc k hlt;have z:=HZ.out k hlt;have i1:(k:Int)<(n:Int):=(by omega);clear hcc;go_wp2_with fail
    refine(JV _ _ z).mono ?_;rintro e w1 ⟨rfl,hb1⟩;have B1:=Af hB hb1;clear g1;by_cases t:By (f k) 40=true
    ·have HA2:Hid (∀j,j<k+1->By (f j) 40=true):=hid (fun j hj=>by
      by_cases e:j=k
      ·subst e;exact t
      ·exact HA.out j (by omega))
     go_wp2;exact⟨⟨k+1,by omega,by go_num,HA2,B1⟩,by simp[intOf];omega⟩
    ·have t':By (f k) 40=false:=(by simpa using t);clear t;go_wp2;go_ret;exact⟨Ah (Pz hlt t').symm,B1⟩
   ·go_wp2;go_ret;have e:k=n:=(by omega);subst e;exact⟨Ah (by rw[Nk HA.out];simp;omega),hB⟩
def G8(t:Ab):Bool:=
 if t.kind=1 then t.jA.n==0&&(t.own.n==0&&Dt t.b2 t.c2.n)
 else if t.kind=2 then t.data.toList.isEmpty&&(t.own.n==0&&Dt t.b2 t.c2.n)
 else if t.kind=3 then t.data.toList.isEmpty&&t.jA.n==0&&(t.own.n==0&&Dt t.b2 t.c2.n)
 else if t.kind=4 then t.data.toList.isEmpty&&t.jA.n==0
 else false
def Cz(t:Ab):Bool:=Ba t.b1 t.c1.n t.c1.f t.c1.g&&Ba t.b2 t.c2.n t.c2.f t.c2.g&&Cg t.own.n t.own.h&&By t.data 40&&Eu t.jA.n t.jA.f&&G8 t
theorem au(n:Nat):((n:Int)==0)=(n==0):=by
 by_cases e:n=0
 ·subst e;rfl
 ·have e1:(n==0)=false:=by simpa using e
  rw[e1];simp;omega
theorem UC(b:Int)(c:Aq)(w:World)(hc:c.at w):
 Calls prog 41 #[.agg #[.int .i64 b,c.val]] w fun e w'=>e= .returned (.bool (Ba b c.n c.f c.g))/\Below w w w':=Ea b c.a c.n c.k c.f c.g w hc.1 hc.2
theorem YF(c:AH)(w:World)(hc:c.at w):
 Calls prog 51 #[c.val] w fun e w'=>e= .returned (.bool (Cg c.n c.h))/\w'=w:=If c.a c.n c.k c.h w hc.1 hc.2
theorem Yo(c:Aw)(w:World)(hc:c.at w):
 Calls prog 122 #[c.val] w fun e w'=>e= .returned (.bool (Eu c.n c.f))/\Below w w w':=SC c.a c.n c.k c.f w hc.1 hc.2.1 hc.2.2
theorem ZG(b:Int)(c:Aq)(w:World)(hc:c.at w):
 Calls prog 42 #[.agg #[.int .i64 b,c.val]] w fun e w'=>e= .returned (.bool (Dt b c.n))/\Below w w w':=JK b c.a c.n c.k w hc.1
theorem P8(t:Ab)(w:World)(ht:t.at w):
 Calls prog 82 #[t.val] w fun e w'=>e= .returned (.bool (Cz t))/\Below w w w':=by
 have n1:No (.cells #[t.id,t.kind,t.up,t.b1,t.c1.val,.string t.data,t.jA.val,t.own.val,t.b2,t.c2.val] 47):=⟨⟩;have hb0:=(Below.refl _ w).alloc nr n1;have A0:=Ag.new w n1;have T0:=hid (ht.below hb0);unfold Ab.val;obtain⟨x0,x1,x2,x3,x4,x5,x6,x7,x8,x9⟩:=A0.jE;clear ht;go_enter func82,ntmps82
 go_wp2_with fail
 refine(UC _ t.c1 _ T0.out.1).mono ?_;rintro e w1 ⟨rfl,hb1⟩;have A1:=A0.below hb1;have T1:=hid (T0.out.below hb1);have B1:=Af hb0 hb1;clear x0 x1 x2 x3 x4 x5 x6 x7 x8 x9 A0 T0 hb0 hb1;obtain⟨x0,x1,x2,x3,x4,x5,x6,x7,x8,x9⟩:=A1.jE;cases t1:Ba t.b1 t.c1.n t.c1.f t.c1.g with
 |false=>
  go_wp2;go_ret;exact⟨Ah (by simp[Cz,t1]),B1⟩
 |true=>
 go_wp2_with fail
 refine(UC _ t.c2 _ T1.out.2.2.2.1).mono ?_;rintro e w2 ⟨rfl,hb2⟩;have A2:=A1.below hb2;have T2:=hid (T1.out.below hb2);have B2:=Af B1 hb2;clear x0 x1 x2 x3 x4 x5 x6 x7 x8 x9 A1 T1 B1 hb2;obtain⟨x0,x1,x2,x3,x4,x5,x6,x7,x8,x9⟩:=A2.jE;cases t2:Ba t.b2 t.c2.n t.c2.f t.c2.g with
 |false=>
  go_wp2;go_ret;exact⟨Ah (by simp[Cz,t2]),B2⟩
 |true=>
 go_wp2_with fail
 refine(YF t.own _ T2.out.2.2.1).mono ?_;rintro e w3 ⟨rfl,rfl⟩;cases t3:Cg t.own.n t.own.h with
 |false=>
  go_wp2;go_ret;exact⟨Ah (by simp[Cz,t3]),B2⟩
 |true=>
 go_wp2_with fail
 refine(JV t.data _ T2.out.2.2.2.2).mono ?_;rintro e w4 ⟨rfl,hb4⟩;have A4:=A2.below hb4;have T4:=hid (T2.out.below hb4);have B4:=Af B2 hb4;clear x0 x1 x2 x3 x4 x5 x6 x7 x8 x9 A2 T2 B2 hb4;obtain⟨x0,x1,x2,x3,x4,x5,x6,x7,x8,x9⟩:=A4.jE;cases t4:By t.data 40 with
 |false=>
  go_wp2;go_ret;exact⟨Ah (by simp[Cz,t4]),B4⟩
 |true=>
 go_wp2_with fail
 refine(Yo t.jA _ T4.out.2.1).mono ?_;rintro e w5 ⟨rfl,hb5⟩;have A5:=A4.below hb5;have T5:=hid (T4.out.below hb5);have B5:=Af B4 hb5;clear x0 x1 x2 x3 x4 x5 x6 x7 x8 x9 A4 T4 B4 hb5;obtain⟨x0,x1,x2,x3,x4,x5,x6,x7,x8,x9⟩:=A5.jE;cases t5:Eu t.jA.n t.jA.f with
 |false=>
  go_wp2;go_ret;exact⟨Ah (by simp[Cz,t5]),B5⟩
 |true=>
 have OK:Hid (Cz t=G8 t):=hid (by simp[Cz,t1,t2,t3,t4,t5]);clear t1 t2 t3 t4 t5;unfold Aw.val at x6;go_wp2_with fail
 have hn5:=T5.out.2.1.1;unfold maxLen at hn5;go_quiet(fail)
 unfold AH.val at x7;have hn6:=T5.out.2.2.1.1;unfold maxLen at hn6;have Z:=hid (ZG t.b2 t.c2 _ (T5.out.below (below_drewN (Below.refl _ w5) nq)).2.2.2.1);have B6:=below_drewN B5 nq;go_wp2_with(go_at_call 42;refine Z.out.mono ?_;rintro e w6 ⟨rfl,hb6⟩;have x1':=(hb6.cell (p:=⟨w,1,none⟩) A5.lt).trans x1;have B7:=Af B6 hb6)
 all_goals
  go_ret;refine⟨Ah ?_,by assumption⟩;rw[OK.out];first
  |(simp_all[G8];done)
  |(simp_all[G8];exact au _)
def Bh(ids:Nat->Int)(n:Nat)(x:Int):Option Nat:=(List.range n).find? (fun j=>ids j==x)
def Jk(ids ups:Nat->Int)(n i:Nat):Option Nat:=if i=0 then none else Bh ids n (ups i)
def Bm(ids ups:Nat->Int)(n:Nat):Nat->Nat->Option Nat
 |0,i=>some i
 |m+1,i=>(Jk ids ups n i).bind (Bm ids ups n m)
def Du(ids ups:Nat->Int)(n i:Nat):List Nat:=(List.range n).filter (fun j=>ups j==ids i)
def Fq(ids ups:Nat->Int)(n:Nat):Nat->Nat->List Nat
 |0,_=>[]
 |f+1,i=>i::(Du ids ups n i).flatMap (Fq ids ups n f)
def Dp(ids:Nat->Int)(n:Nat):Prop:=∀i j,i<j->j<n->ids i<ids j
theorem Ay{ids:Nat->Int}{n:Nat}{x:Int}{j:Nat}(h:Bh ids n x=some j):j<n/\ids j=x:=by
 unfold Bh at h;exact⟨List.mem_range.1 (List.mem_of_find?_eq_some h),by simpa using List.find?_some h⟩
theorem Ig{ids:Nat->Int}{n:Nat}{x:Int}(h:Bh ids n x=none):∀j,j<n->ids j≠x:=by
 unfold Bh at h;rw[List.find?_eq_none]at h;intro j hj e;have:=h j (List.mem_range.2 hj);simp[e]at this
theorem Dp.inj{ids:Nat->Int}{n:Nat}(h:Dp ids n){i j:Nat}(hi:i<n)(hj:j<n)(e:ids i=ids j):i=j:=by
 rcases Nat.lt_trichotomy i j with h1|h1|h1
 ·have:=h i j h1 hj;omega
 ·exact h1
 ·have:=h j i h1 hi;omega
theorem Dq{ids:Nat->Int}{n:Nat}(h:Dp ids n){j:Nat}(hj:j<n):Bh ids n (ids j)=some j:=by
 cases e:Bh ids n (ids j)with
 |none=>exact absurd rfl (Ig e j hj)
 |some k=>
  obtain⟨h1,h2⟩:=Ay e;rw[h.inj h1 hj h2]
section
variable {ids ups:Nat->Int}{n:Nat}
theorem Ey(a b i:Nat):Bm ids ups n (a+b) i=(Bm ids ups n a i).bind (Bm ids ups n b):=by
 induction a generalizing i with
 |zero=>simp[Bm]
 |succ a ih=>
  rw[Nat.succ_add];simp only[Bm];cases Jk ids ups n i with
  |none=>rfl
  |some k=>simp only[Option.bind_some];exact ih k
theorem Pn(i:Nat):Bm ids ups n 1 i=Jk ids ups n i:=by
 simp only[Bm];cases Jk ids ups n i<;>rfl
theorem DG(m i:Nat):Bm ids ups n (m+1) i=(Bm ids ups n m i).bind (Jk ids ups n):=by
 rw[Ey];congr 1;funext j;exact Pn j
theorem Nr{i j:Nat}(h:Jk ids ups n i=some j):j<n:=by
 unfold Jk at h;split at h
 ·cases h
 ·exact(Ay h).1
theorem Rs{m i j:Nat}(hi:i<n)(h:Bm ids ups n m i=some j):j<n:=by
 cases m with
 |zero=>simp only[Bm,Option.some.injEq]at h;omega
 |succ m=>
  rw[DG]at h;cases e:Bm ids ups n m i with
  |none=>simp[e]at h
  |some k=>simp only[e,Option.bind_some]at h;exact Nr h
def GX(ids ups:Nat->Int)(n i:Nat):Prop:=∀p,Bm ids ups n (p+1) i≠some i
theorem FQ:GX ids ups n 0:=fun p h=>by simp[Bm,Jk]at h
theorem VY{i k:Nat}(h:GX ids ups n i)(hk:Jk ids ups n k=some i):GX ids ups n k:=fun p e=>by
 have e1:Bm ids ups n p i=some k:=by
  have:=e;simp only[Bm,hk,Option.bind_some]at this;exact this
 exact h p (by rw[DG,e1];exact hk)
theorem Od{i k m:Nat}(h:GX ids ups n i)(hk:Bm ids ups n m k=some i):GX ids ups n k:=fun p e=>by
 have e2:Bm ids ups n (p+1+m) k=some i:=by rw[Ey,e];exact hk
 rw[Nat.add_comm,Ey,hk]at e2;exact h p e2
theorem Ij(n:Nat)(l:List Nat)(h:∀x∈l,x<n):l.length=((List.range n).map (fun j=>l.count j)).sum:=by
 induction l with
 |nil=>
  have:∀L:List Nat,(L.map (fun j=>([]:List Nat).count j)).sum=0:=by
   intro L;induction L with
   |nil=>rfl
   |cons a L ih=>rw[List.map_cons,List.sum_cons,ih];rfl
  rw[this];rfl
 |cons a l ih=>
  have h1:=ih (fun x hx=>h x (List.mem_cons_of_mem _ hx));have ha:a<n:=h a List.mem_cons_self;have key:∀N,(((List.range N).map (fun j=>(a::l).count j)).sum)=((List.range N).map (fun j=>l.count j)).sum+(if a<N then 1 else 0):=by
   intro N;induction N with
   |zero=>simp
   |succ N ihN=>
    rw[List.range_succ,List.map_append,List.sum_append,List.map_append,List.sum_append,ihN];simp only[List.map_cons,List.map_nil,List.sum_cons,List.sum_nil,List.count_cons];by_cases e:a=N
    ·subst e;simp;omega
    ·have e1:(a==N)=false:=(by simpa using e);simp only[e1];by_cases e2:a<N
     ·have:a<N+1:=(by omega);simp[e2,this];omega
     ·have:¬a<N+1:=(by omega);simp[e2,this]
  rw[key,if_pos ha,List.length_cons,h1]
theorem Nf(n:Nat)(c:Nat->Nat)(h:∀j,c j<=1):((List.range n).map c).sum<=n:=by
 induction n with
 |zero=>simp
 |succ n ih=>rw[List.range_succ,List.map_append,List.sum_append];have:=h n;simp;omega
theorem WK(n:Nat)(c:Nat->Nat)(h:∀j,c j<=1)(e:((List.range n).map c).sum=n):∀j,j<n->c j=1:=by
 induction n with
 |zero=>intro j hj;omega
 |succ n ih=>
  rw[List.range_succ,List.map_append,List.sum_append]at e;simp at e;have h1:=Nf n c h;have h2:=h n;intro j hj;by_cases e1:j=n
  ·subst e1;omega
  ·exact ih (by omega) j (by omega)
theorem Zj(n:Nat)(c:Nat->Nat)(h:∀j,j<n->c j=1):((List.range n).map c).sum=n:=by
 induction n with
 |zero=>simp
 |succ n ih=>rw[List.range_succ,List.map_append,List.sum_append,ih (fun j hj=>h j (by omega))];simp[h n (by omega)]
theorem Gu{l:List Nat}(hl:l.Nodup)(h:∀x∈l,x<n):l.length<=n:=by
 rw[Ij n l h];exact Nf n _ (fun j=>List.nodup_iff_count.1 hl j)
theorem Ug{l:List Nat}(hl:l.Nodup)(h:∀x∈l,x<n):l.length=n↔∀j,j<n->j∈l:=by
 constructor
 ·intro e j hj;rw[Ij n l h]at e;have:=WK n _ (fun j=>List.nodup_iff_count.1 hl j) e j hj;exact List.count_pos_iff.1 (by omega)
 ·intro e;rw[Ij n l h];refine Zj n _ (fun j hj=>?_);have h1:=List.nodup_iff_count.1 hl j;have h2:=List.count_pos_iff.2 (e j hj);omega
theorem MX{i j m:Nat}(hc:GX ids ups n i)(hj:j<n)(h:Bm ids ups n m j=some i):m<n:=by
 have each:∀q,q<=m->∃x,Bm ids ups n q j=some x:=fun q hq=>by
  have e:m=q+(m-q):=by omega
  rw[e,Ey]at h;cases e1:Bm ids ups n q j with
  |none=>simp[e1]at h
  |some x=>exact⟨x,rfl⟩
 have hl:((List.range (m+1)).map (fun q=>(Bm ids ups n q j).getD 0)).Nodup:=by
  rw[List.Nodup,List.pairwise_map];refine List.Pairwise.imp_of_mem ?_ (List.pairwise_lt_range (n:=m+1));intro a b ha hb hab e;have ha':=List.mem_range.1 ha;have hb':=List.mem_range.1 hb;obtain⟨x,hx⟩:=each a (by omega);obtain⟨y,hy⟩:=each b (by omega);simp only[hx,hy,Option.getD_some]at e;subst e;have e1:b=a+(b-a-1+1):=by omega
  rw[e1,Ey,hx,Option.bind_some]at hy;have e2:m=a+(m-a):=by omega
  rw[e2,Ey,hx,Option.bind_some]at h;exact Od hc h _ hy
 have:=Gu (n:=n) hl (by
  intro x hx;obtain⟨q,hq,rfl⟩:=List.mem_map.1 hx;have hq':=List.mem_range.1 hq;obtain⟨y,hy⟩:=each q (by omega);rw[hy];exact Rs hj hy)
 simp at this;omega
theorem Fx(hr:Dp ids n)(h0:∀j,j<n->ids j≠ups 0){i k:Nat}(hi:i<n):k∈Du ids ups n i↔k<n/\Jk ids ups n k=some i:=by
 unfold Du;rw[List.mem_filter,List.mem_range];constructor
 ·rintro⟨h1,h2⟩;refine⟨h1,?_⟩;have h2':ups k=ids i:=by simpa using h2
  unfold Jk;split
  ·rename_i e;subst e;exact absurd h2'.symm (h0 i hi)
  ·rw[h2'];exact Dq hr hi
 ·rintro⟨h1,h2⟩;refine⟨h1,?_⟩;unfold Jk at h2;split at h2
  ·cases h2
  ·simp[(Ay h2).2]
theorem Ek(hr:Dp ids n)(h0:∀j,j<n->ids j≠ups 0){f i j:Nat}(hi:i<n):j∈Fq ids ups n f i↔j<n/\∃m,m<f/\Bm ids ups n m j=some i:=by
 induction f generalizing i with
 |zero=>simp[Fq]
 |succ f ih=>
  simp only[Fq,List.mem_cons,List.mem_flatMap];constructor
  ·rintro(rfl|⟨k,hk,hj⟩)
   ·exact⟨hi,0,by omega,rfl⟩
   ·obtain⟨k1,k2⟩:=(Fx hr h0 hi).1 hk;obtain⟨hj',m,hm,e⟩:=(ih k1).1 hj;exact⟨hj',m+1,by omega,by rw[DG,e];exact k2⟩
  ·rintro⟨hj,m,hm,e⟩;cases m with
   |zero=>simp only[Bm,Option.some.injEq]at e;exact .inl e
   |succ m=>
    rw[DG]at e;cases e1:Bm ids ups n m j with
    |none=>simp[e1]at e
    |some k=>
     simp only[e1,Option.bind_some]at e;have hk:=Rs hj e1;exact .inr ⟨k,(Fx hr h0 hi).2 ⟨hk,e⟩,(ih hk).2 ⟨hj,m,by omega,e1⟩⟩
theorem Hy(hr:Dp ids n)(h0:∀j,j<n->ids j≠ups 0){f i:Nat}(hi:i<n)(hc:GX ids ups n i):(Fq ids ups n f i).Nodup:=by
 induction f generalizing i with
 |zero=>simp[Fq]
 |succ f ih=>
  simp only[Fq,List.nodup_cons,List.mem_flatMap];refine⟨?_,?_⟩
  ·rintro⟨k,hk,hj⟩;obtain⟨k1,k2⟩:=(Fx hr h0 hi).1 hk;obtain⟨_,m,_,e⟩:=(Ek hr h0 k1).1 hj;exact hc m (by rw[DG,e];exact k2)
  ·rw[List.Nodup,List.pairwise_flatMap];refine⟨fun k hk=>?_,?_⟩
   ·obtain⟨k1,k2⟩:=(Fx hr h0 hi).1 hk;exact ih k1 (VY hc k2)
   ·have hn:(Du ids ups n i).Nodup:=List.Nodup.sublist List.filter_sublist List.nodup_range;refine List.Pairwise.imp_of_mem ?_ hn;intro a b ha hb hab x hx y hy exy;subst exy;obtain⟨a1,a2⟩:=(Fx hr h0 hi).1 ha;obtain⟨b1,b2⟩:=(Fx hr h0 hi).1 hb;obtain⟨_,p,_,ep⟩:=(Ek hr h0 a1).1 hx;obtain⟨_,q,_,eq⟩:=(Ek hr h0 b1).1 hy;have far:∀{a b p q:Nat},Jk ids ups n a=some i->Jk ids ups n b=some i->Bm ids ups n p x=some a->Bm ids ups n q x=some b->p<q->False:=by
     intro a b p q a2 b2 ep eq hpq;have e1:q=p+(q-p-1+1):=(by omega);rw[e1,Ey,ep,Option.bind_some]at eq;simp only[Bm,a2,Option.bind_some]at eq;exact hc (q-p-1) (by rw[DG,eq];exact b2)
    rcases Nat.lt_trichotomy p q with h|h|h
    ·exact far a2 b2 ep eq h
    ·subst h;rw[ep]at eq;exact hab (by simpa using eq)
    ·exact far b2 a2 eq ep h
def E8(ids ups:Nat->Int)(n:Nat):Bool:=(List.range n).all fun i=>(List.range n).any fun m=>Bm ids ups n m i==some 0
theorem Gc:E8 ids ups n=true↔∀i,i<n->∃m,m<n/\Bm ids ups n m i=some 0:=by
 simp only[E8,List.all_eq_true,List.any_eq_true,List.mem_range,beq_iff_eq]
theorem Wt(hr:Dp ids n)(h0:∀j,j<n->ids j≠ups 0)(hn:0<n):((Fq ids ups n n 0).length=n)↔E8 ids ups n=true:=by
 rw[Ug (Hy hr h0 hn FQ) (fun x hx=>((Ek hr h0 hn).1 hx).1),Gc];constructor
 ·intro h i hi;exact((Ek hr h0 hn).1 (h i hi)).2
 ·intro h i hi;exact(Ek hr h0 hn).2 ⟨hi,h i hi⟩
theorem M8{i m:Nat}(h:Bm ids ups n m i=some 0):GX ids ups n i:=Od FQ h
end
variable {n k:Nat}
def Dn(t:Ae):Bool:=Dy t.id t.made t.b1 t.c1.n t.c1.f t.c1.g t.b2 t.c2.n t.c2.f t.c2.g t.own.n t.own.h
theorem Wh(t:Ae)(w:World)(ht:t.at w):
 Calls prog 54 #[t.val] w fun e w'=>e= .returned (.bool (Dn t))/\Below w w w':=II _ _ _ _ _ _ _ _ _ _ _ _ _ _ _ _ _ _ w ht.1.1 ht.2.1.1 ht.2.2.1 ht.1.2 ht.2.1.2 ht.2.2.2
def Ej(T:Nat->Ae)(i:Nat):Bool:=Dn (T i)&&(i==0||decide ((T (i-1)).id<(T i).id))
def Br(n:Nat)(T:Nat->Ae):Bool:=decide (1<=n)&&decide (n<=9)&&(List.range n).all (Ej T)
def FK(O:Nat->Ab)(i:Nat):Bool:=Cz (O i)&&(if i=0 then decide (0<(O 0).id)else decide ((O (i-1)).id<(O i).id))
def Fs(t:Ab):Bool:=t.id==1&&t.kind==3&&t.up==0
def Cl(n:Nat)(O:Nat->Ab):Bool:=decide (1<=n)&&decide (n<=271)&&(List.range n).all (FK O)&&Fs (O 0)
theorem GJ{p:Nat->Bool}(hk:k<n)(e:p k=false):(List.range n).all p=false:=by
 rw[List.all_eq_false];exact⟨k,List.mem_range.2 hk,by simp[e]⟩
theorem Eh{p:Nat->Bool}(e:∀i,i<n->p i=true):(List.range n).all p=true:=by
 rw[List.all_eq_true];intro i hi;exact e i (List.mem_range.1 hi)
theorem Gd{p:Nat->Bool}(e:(List.range n).all p=true):∀i,i<n->p i=true:=fun i hi=>List.all_eq_true.1 e i (List.mem_range.2 hi)
theorem J8{t:Ae}(h:Dn t=true):1<=t.id/\t.id<=9:=by
 unfold Dn Dy at h;simp only[Bool.and_eq_true]at h;exact Eg.1 (by simp_all)
theorem XX{T:Nat->Ae}(h:Dn (T k)=true)(e:(T k).id<=lastOf (fun i=>(T i).id) k):Ej T k=false:=by
 have h1:=J8 h;by_cases e0:k=0
 ·subst e0;simp[lastOf]at e;omega
 ·simp[lastOf,e0]at e;have:decide ((T (k-1)).id<(T k).id)=false:=by simp;omega
  simp[Ej,e0,this]
theorem Vi{T:Nat->Ae}(h:Dn (T k)=true)(e:¬(T k).id<=lastOf (fun i=>(T i).id) k):Ej T k=true:=by
 by_cases e0:k=0
 ·subst e0;simp[Ej,h]
 ·simp[lastOf,e0]at e;simp[Ej,h,e]
theorem Xb{O:Nat->Ab}(e:(O k).id<=lastOf (fun i=>(O i).id) k):FK O k=false:=by
 by_cases e0:k=0
 ·subst e0;simp[lastOf]at e;simp[FK];intro _;omega
 ·simp[lastOf,e0]at e;have:decide ((O (k-1)).id<(O k).id)=false:=by simp;omega
  simp[FK,e0,this]
theorem Vo{O:Nat->Ab}(h:Cz (O k)=true)(e:¬(O k).id<=lastOf (fun i=>(O i).id) k):FK O k=true:=by
 by_cases e0:k=0
 ·subst e0;simp[lastOf]at e;simp[FK,h,e]
 ·simp[lastOf,e0]at e;simp[FK,h,e,e0]
def Ae.blk(t:Ae):Obj:= .cells #[t.id,t.b1,t.c1.val,t.b2,t.c2.val,t.own.val,t.made] 42
theorem Ag.c0{W:World}{P t:Nat}{cs:Array Value}(h:Ag W P (.cells cs t))(i:Nat){v:Value}(hv:cs[i]? =some v):W.cell? ⟨P,i,none⟩=some v:=by
 unfold Ag at h;simp[World.cell?,h,hv]
theorem Ox(a:Option Addr)(n cap:Nat)(T:Nat->Ae)(w:World)(hn:n<=maxLen)(hT:Ic w a n T):
 Calls prog 36 #[.slice a n cap] w fun e w'=>e= .returned (.bool (Br n T))/\Below w w w':=by
 unfold maxLen at hn;have HT:=hid hT;clear hT;by_cases h1:n<1
 ·have h1':(n:Int)<1:=by omega
  go_enter func36,ntmps36
  go_wp2;go_ret;have:n=0:=by omega
  exact⟨Ah (by simp[Br,this]),Below.refl _ _⟩
 have h1':¬(n:Int)<1:=by omega
 by_cases h9:9<n
 ·have h9':(9:Int)<(n:Int):=by omega
  go_enter func36,ntmps36
  go_wp2;go_ret;have:decide (n<=9)=false:=by simp;omega
  exact⟨Ah (by simp[Br,this]),Below.refl _ _⟩
 have h9':¬(9:Int)<(n:Int):=by omega
 go_enter func36,ntmps36
 go_wp2;go_loopw [3,16] (fun l i wr=>∃k:Nat,k<=n/\i= .int .i64 k/\l= .int .i64 (lastOf (fun i=>(T i).id) k)/\Hid (∀j,j<k->Ej T j=true)/\Below w w wr) (fun _ i _=>n-(intOf i).toNat)
 case atStart=>exact⟨0,Nat.zero_le _,rfl,rfl,hid (fun j hj=>by omega),Below.refl _ _⟩
 case round=>
  obtain⟨k,hk,rfl,rfl,HA,hB⟩:=hrel;by_cases hlt:k<n
  ·obtain⟨b,off,rfl,hlt0,hcc⟩:=HT.out.below hB (by omega);obtain⟨⟨q0,q1,q2,q3,q4,q5,q6⟩,ht⟩:=hcc k hlt;have i1:(k:Int)<(n:Int):=(by omega);have b1:Below wr wr (wr.alloc (T k).blk):=Bd wr _;have SZ:=hid (Wh (T k) _ (ht.below b1));have A0:=Ag.new wr (T k).blk;have B0:=Af hB b1;simp only[Aq.val,AH.val,Ae.blk,Ae.val]at q2 q4 q5 SZ A0 b1 B0;clear hcc ht;go_wp2_with fail
   refine SZ.out.mono ?_;rintro e w2 ⟨rfl,hb2⟩;have A2:=A0.below hb2;have x0:=A2.c0 0 rfl;have B2:=Af B0 hb2;clear q0 q1 q2 q3 q4 q5 q6 SZ hb2 A0 B0 b1 hlt0;cases t1:Dn (T k)with
   |false=>
    go_wp2;go_ret;exact⟨Ah (by rw[Br,GJ hlt (by simp[Ej,t1])];simp),B2⟩
   |true=>
    by_cases t2:(T k).id<=lastOf (fun i=>(T i).id) k
    ·go_wp2;go_ret;exact⟨Ah (by rw[Br,GJ hlt (XX t1 t2)];simp),B2⟩
    ·have HA2:Hid (∀j,j<k+1->Ej T j=true):=hid (fun j hj=>by
      by_cases e:j=k
      ·subst e;exact Vi t1 t2
      ·exact HA.out j (by omega))
     go_wp2;exact⟨⟨k+1,by omega,by go_num,by rw[G5],HA2,B2⟩,by simp[intOf];omega⟩
  ·go_wp2;go_ret;have e:k=n:=(by omega);subst e;refine⟨Ah ?_,hB⟩;rw[Br,Eh HA.out];simp;omega
theorem Pb(a:Option Addr)(n cap:Nat)(O:Nat->Ab)(w:World)(hn:n<=maxLen)(hT:Hi w a n O):
 Calls prog 37 #[.slice a n cap] w fun e w'=>e= .returned (.bool (Cl n O))/\Below w w w':=by
 unfold maxLen at hn;have HT:=hid hT;clear hT;by_cases h1:n<1
 ·have h1':(n:Int)<1:=by omega
  go_enter func37,ntmps37
  go_wp2;go_ret;have:n=0:=by omega
  exact⟨Ah (by simp[Cl,this]),Below.refl _ _⟩
 have h1':¬(n:Int)<1:=by omega
 by_cases h9:271<n
 ·have h9':(271:Int)<(n:Int):=by omega
  go_enter func37,ntmps37
  go_wp2;go_ret;have:decide (n<=271)=false:=by simp;omega
  exact⟨Ah (by simp[Cl,this]),Below.refl _ _⟩
 have h9':¬(271:Int)<(n:Int):=by omega
 go_enter func37,ntmps37
 go_wp2;go_loopw [3,17] (fun l i wr=>∃k:Nat,k<=n/\i= .int .i64 k/\l= .int .i64 (lastOf (fun i=>(O i).id) k)/\Hid (∀j,j<k->FK O j=true)/\Below w w wr) (fun _ i _=>n-(intOf i).toNat)
 case atStart=>exact⟨0,Nat.zero_le _,rfl,rfl,hid (fun j hj=>by omega),Below.refl _ _⟩
 case round=>
  obtain⟨k,hk,rfl,rfl,HA,hB⟩:=hrel;by_cases hlt:k<n
  ·obtain⟨b,off,rfl,hlt0,hcc⟩:=HT.out.below hB (by omega);obtain⟨⟨q0,q1,q2,q3,q4,q5,q6,q7,q8,q9⟩,ht⟩:=hcc k hlt;have i1:(k:Int)<(n:Int):=(by omega);have b1:Below wr wr (wr.alloc (.cells #[.int .i64 (O k).id,.int .i64 (O k).kind,.int .i64 (O k).up,.int .i64 (O k).b1,(O k).c1.val,.string (O k).data,(O k).jA.val,(O k).own.val,.int .i64 (O k).b2,(O k).c2.val] 47)):=Bd wr _;have SZ:=hid (P8 (O k) _ (ht.below b1));have A0:=Ag.new wr (.cells #[.int .i64 (O k).id,.int .i64 (O k).kind,.int .i64 (O k).up,.int .i64 (O k).b1,(O k).c1.val,.string (O k).data,(O k).jA.val,(O k).own.val,.int .i64 (O k).b2,(O k).c2.val] 47);have B0:=Af hB b1;simp only[Aq.val,AH.val,Aw.val,Ab.val]at q4 q6 q7 q9 SZ A0 b1 B0;clear hcc ht;go_wp2_with fail
   refine SZ.out.mono ?_;rintro e w2 ⟨rfl,hb2⟩;have A2:=A0.below hb2;have x0:=A2.c0 0 rfl;have B2:=Af B0 hb2;clear q0 q1 q2 q3 q4 q5 q6 q7 q8 q9 SZ hb2 A0 B0 b1 hlt0;cases t1:Cz (O k)with
   |false=>
    go_wp2;go_ret;exact⟨Ah (by rw[Cl,GJ hlt (by simp[FK,t1])];simp),B2⟩
   |true=>
    by_cases t2:(O k).id<=lastOf (fun i=>(O i).id) k
    ·go_wp2;go_ret;exact⟨Ah (by rw[Cl,GJ hlt (Xb t2)];simp),B2⟩
    ·have HA2:Hid (∀j,j<k+1->FK O j=true):=hid (fun j hj=>by
      by_cases e:j=k
      ·subst e;exact Vo t1 t2
      ·exact HA.out j (by omega))
     go_wp2;exact⟨⟨k+1,by omega,by go_num,by rw[G5],HA2,B2⟩,by simp[intOf];omega⟩
  ·have e:k=n:=(by omega);subst e;obtain⟨b,off,rfl,hlt0,hcc⟩:=HT.out.below hB (by omega);obtain⟨⟨q0,q1,q2,q3,q4,q5,q6,q7,q8,q9⟩,ht⟩:=hcc 0 (by omega);simp only[Nat.zero_mul,Nat.add_zero]at q0 q1 q2 q3 q4 q5 q6 q7 q8 q9;have i0:(0:Int)<(k:Int):=(by omega);have OK:Hid (Cl k O=Fs (O 0)):=hid (by
    have d1:decide (1<=k)=true:=(by simp;omega);have d2:decide (k<=271)=true:=(by simp;omega);rw[Cl,Eh HA.out,d1,d2];rfl)
   simp only[Aq.val,AH.val,Aw.val]at q4 q6 q7 q9;clear hcc ht HA;go_wp2;all_goals
    go_ret;refine⟨Ah ?_,hB.alloc hB.size _⟩;rw[OK.out];clear q0 q1 q2 q3 q4 q5 q6 q7 q8 q9;simp_all[Fs]
open Go.Maps
variable {w w':World}{b n k o:Nat}
theorem Hh:Keyed prog 2:=int_keyed underlying2
theorem Zp(w:World):(zeroValue 2).run prog w= .ok (.int .i64 0) w:=by kernel_rfl
def look(f g:Nat->Int):Nat->Int->Option Int
 |0,_=>none
 |k+1,x=>if f k=x then some (g k)else look f g k x
def Bp(w:World)(b n:Nat)(m:Int->Option Int):Prop:=
 ∃D:DataW Unit,w.ownsMap prog 2 (plainElem prog 2) b n D/\IsMap D/\
  ∀x,Maps.has D (.int .i64 x)=(m x).isSome/\∀v,m x=some v->D.atKey (.int .i64 x) (.lit (.int .i64 0))= .lit (.int .i64 v)
theorem Bp.made(w:World):Bp (w.alloc (.map #[] 0)) w 0 (fun _=>none):=
 ⟨.map [],World.ownsMap_made _ _ _ _,isMap_empty,fun x=>⟨rfl,fun v h=>by cases h⟩⟩
theorem Bp.of_block{m:Int->Option Int}(h:Bp w b n m)(e:w'.heap[b]? =w.heap[b]?):Bp w' b n m:=by
 obtain⟨D,⟨es,clock,hb,F,hs,hD⟩,r⟩:=h;exact⟨D,⟨es,clock,e.trans hb,F,hs,hD⟩,r⟩
theorem Bp.setCell{m:Int->Option Int}(h:Bp w b n m){a:Addr}(ha:b≠a.block)(v:Value):Bp (w.setCell a v) b n m:=h.of_block (blk_setCell_other _ _ _ _ ha)
theorem Bp.lt{m:Int->Option Int}(h:Bp w b n m):b<w.heap.size:=by
 obtain⟨D,h1,_⟩:=h;exact h1.lt
theorem Bp.alloc{m:Int->Option Int}(h:Bp w b n m)(o:Obj):Bp (w.alloc o) b n m:=by
 obtain⟨D,h1,h2,h3⟩:=h;exact⟨D,h1.alloc o,h2,h3⟩
def jB(m:Int->Option Int)(k v:Int)(x:Int):Option Int:=if k=x then some v else m x
theorem Bp.put{D:DataW Unit}{m:Int->Option Int}{k v:Int}(h2:IsMap D)
 (h3:∀x,Maps.has D (.int .i64 x)=(m x).isSome/\∀v,m x=some v->D.atKey (.int .i64 x) (.lit (.int .i64 0))= .lit (.int .i64 v)):
 IsMap (D.put (.int .i64 k) (.lit (.int .i64 v)))/\
 ∀x,Maps.has (D.put (.int .i64 k) (.lit (.int .i64 v))) (.int .i64 x)=(jB m k v x).isSome/\∀u,jB m k v x=some u->(D.put (.int .i64 k) (.lit (.int .i64 v))).atKey (.int .i64 x) (.lit (.int .i64 0))= .lit (.int .i64 u):=by
 refine⟨h2.put _ _,fun x=>?_⟩;by_cases e:k=x
 ·subst e;refine⟨?_,fun u hu=>?_⟩
  ·rw[has_put_same h2 (by trivial)];simp[jB]
  ·simp[jB]at hu;subst hu;exact atKey_put_same h2 (by trivial) _ _
 ·have hne:(Lit.int .i64 x)≠(Lit.int .i64 k):=by simp;exact fun h=>e h.symm
  refine⟨?_,fun u hu=>?_⟩
  ·rw[has_put_other hne];simp[jB,e];exact(h3 x).1
  ·simp[jB,e]at hu;rw[atKey_put_other hne];exact(h3 x).2 u hu
theorem N9(f g:Nat->Int)(k:Nat):jB (look f g k) (f k) (g k)=look f g (k+1):=by
 funext x;rfl
theorem Ci(hg:w.grownBy w' (some b))(hk:k<w.heap.size)(hne:k≠b):w'.cell? ⟨k,o,none⟩=w.cell? ⟨k,o,none⟩:=
 World.cell?_of_block (w:=w) (hg.block k hk (fun e=>hne (by simpa using e)))
theorem Gs(hg:w.grownBy w' (some b))(hk:k<w.heap.size)(hne:k≠b):w'.frozen? ⟨k,o,none⟩=w.frozen? ⟨k,o,none⟩:=
 World.frozen?_of_block (w:=w) (hg.block k hk (fun e=>hne (by simpa using e)))
variable {w:World}{b n:Nat}{x:Int}
theorem Bp.below{w':World}{m:Int->Option Int}(h:Bp w b n m)(hb:Below w w w'):Bp w' b n m:=h.of_block (hb.block b h.lt)
theorem Ho(h0: -9223372036854775808<=x)(h1:x<=9223372036854775807):(Lit.int .i64 x).wf=true:=WalkArith.wf_i64 ⟨h0,h1⟩
theorem Pv(h:(Lit.int .i64 x).wf=true): -9223372036854775808<=x/\x<=9223372036854775807:=by
 simp only[Lit.wf,Bool.and_eq_true,decide_eq_true_eq]at h;have e1:IntKind.i64.min= -9223372036854775808:=rfl;have e2:IntKind.i64.max=9223372036854775807:=rfl;omega
theorem Bp.look{m:Int->Option Int}(h:Bp w b n m)(hx:(Lit.int .i64 x).wf=true):
 (Instr.lookup 137 (.map (some b)) (.int .i64 x) false).run prog w= .ok (.int .i64 ((m x).getD 0)) w:=by
 obtain⟨D,hown,hD,hall⟩:=h;obtain⟨c,hrun,hat,_⟩:=hown.lookup_int Hh underlying137 underlying2 (Zp _) (keyOf_int_mk underlying2 hx);obtain⟨h1,h2⟩:=hall x;rw[hrun];cases hm:m x with
 |none=>
  have:Maps.has D (.int .i64 x)=false:=by rw[h1,hm];rfl
  rw[atKey_of_not_has this]at hat;simp at hat;simp[<-hat]
 |some v=>
  have:=(h2 v hm).symm.trans hat;simp at this;simp[this]
def madeOf(n:Nat)(T:Nat->Ae)(x:Int):Int:=(look (fun i=>(T i).id) (fun i=>(T i).made) n x).getD 0
def Fi(n:Nat)(T:Nat->Ae)(id:Int):Bool:=decide (1<=id%1000)&&decide (id%1000<=madeOf n T (id/1000))
def Gq(n:Nat)(T:Nat->Ae)(m:Nat)(O:Nat->Ab):Bool:=(List.range (m-1)).all (fun i=>Fi n T (O (i+1)).id)
theorem Dh{T:Nat->Ae}(h:Br n T=true):1<=n/\n<=9/\∀i,i<n->Ej T i=true:=by
 simp only[Br,Bool.and_eq_true,decide_eq_true_eq]at h;exact⟨h.1.1,h.1.2,Gd h.2⟩
theorem ME{T:Nat->Ae}{i:Nat}(h:Ej T i=true):Dn (T i)=true:=by
 simp only[Ej,Bool.and_eq_true]at h;exact h.1
theorem JB{t:Ae}(h:Dn t=true):0<=t.made/\t.made<=30:=by
 unfold Dn Dy at h;simp only[Bool.and_eq_true]at h;exact Eg.1 (by simp_all)
theorem Cp{O:Nat->Ab}(h:Cl n O=true):1<=n/\n<=271/\(∀i,i<n->FK O i=true)/\Fs (O 0)=true:=by
 simp only[Cl,Bool.and_eq_true,decide_eq_true_eq]at h;exact⟨h.1.1.1,h.1.1.2,Gd h.1.2,h.2⟩
theorem Bv{O:Nat->Ab}(h:Cl n O=true):Dp (fun i=>(O i).id) n:=by
 obtain⟨_,_,ha,_⟩:=Cp h;intro i j hij;induction j with
 |zero=>omega
 |succ j ih=>
  intro hj;have h1:=ha (j+1) hj;simp[FK]at h1;by_cases e:i=j
  ·subst e;exact h1.2
  ·have:=ih (by omega) (by omega);simp only at this ⊢;omega
theorem CF{O:Nat->Ab}(h:Cl n O=true):(O 0).id=1/\(O 0).kind=3/\(O 0).up=0:=by
 obtain⟨_,_,_,hr⟩:=Cp h;simp only[Fs,Bool.and_eq_true,beq_iff_eq]at hr;exact⟨hr.1.1,hr.1.2,hr.2⟩
theorem Ep{O:Nat->Ab}(h:Cl n O=true):∀i,i<n->1<=(O i).id:=by
 intro i hi;have hr:=(CF h).1;by_cases e:i=0
 ·subst e;omega
 ·have:=Bv h 0 i (by omega) hi;simp only at this;omega
theorem Ov(k:AF)(w:World)(hk:k.at w)(hcap:k.on<=k.ok)(h1:Br k.tn k.T=true)(h2:Cl k.on k.O=true)(hw:∀i,i<k.on->(Lit.int .i64 (k.O i).id).wf=true):
 Calls prog 38 #[k.val] w fun e w'=>e= .returned (.bool (Gq k.tn k.T k.on k.O))/\Below w w w':=by
 have hmm:=@run_makeMap prog;obtain⟨ta,tn,tk,T,oa,on,ok,O⟩:=k;obtain⟨_,_,hT,hO⟩:=hk;unfold AF.val;simp only at h1 h2 hw hT hO hcap ⊢;obtain⟨tn1,tn9,tall⟩:=Dh h1;obtain⟨on1,on2,_,_⟩:=Cp h2;have HT:=hid hT;have HO:=hid hO;obtain⟨tb,toff,rfl,_,_⟩:=hT (by omega);obtain⟨ob,ooff,rfl,_,_⟩:=hO (by omega);have HP:=hid (Ep h2);have HW:=hid hw;have HA:=hid tall;clear h1 h2 hw tall hT hO;have n2:Na #[.slice (some ⟨tb,toff,none⟩) tn tk,.slice (some ⟨ob,ooff,none⟩) on ok]:=⟨⟩;have hb0:=Bd w (.cells n2 27);have A0:=Ag.new w (.cells n2 27);have hb1:=Af hb0 (Bd _ (.map #[] 0));have A1:=A0.alloc (.map #[] 0);have M0:=Bp.made (w.alloc (.cells n2 27));go_enter func38,ntmps38
 go_wp2;generalize hW:((w.alloc (Obj.cells n2 27)).alloc (Obj.map #[] 0))=W at *;have M1:Bp W (w.heap.size+1) 0 (look (fun i=>(T i).id) (fun i=>(T i).made) 0):=by simpa[look]using M0
 clear M0 hb0 A0 hmm hW;go_loopw [13] (fun i wr=>∃j:Nat,j<=tn/\i= .int .i64 j/\Bp wr (w.heap.size+1) j (look (fun i=>(T i).id) (fun i=>(T i).made) j)/\Ag wr w (.cells n2 27)/\Below w w wr) (fun i _=>tn-(intOf i).toNat)
 case atStart=>exact⟨0,Nat.zero_le _,rfl,M1,A1,hb1⟩
 case round=>
  obtain⟨j,hj,rfl,HM,A,hB⟩:=hrel;clear M1 A1 hb1;by_cases hlt:j<tn
  ·obtain⟨_,_,ea,hlt0,hcc⟩:=HT.out.below hB (by omega);cases ea;obtain⟨⟨q0,q1,q2,q3,q4,q5,q6⟩,ht⟩:=hcc j hlt;have i1:(j:Int)<(tn:Int):=(by omega);have t1:=ME (HA j hlt);have hkey:keyOf prog 2 (.int .i64 (T j).id)=some (.int .i64 (T j).id):=keyOf_int_mk underlying2 (Ho (by have:=J8 t1;omega) (by have:=J8 t1;omega));have W2:Hid ((Lit.int .i64 (T j).made).wf=true):=Ho (by have:=JB t1;omega) (by have:=JB t1;omega);have hlm:=HM.lt;obtain⟨D,hown,hD,hm⟩:=HM;simp only[Aq.val,AH.val]at q2 q4 q5;clear hcc ht t1;go_wp2_with(at_mapUpdate;refine wpList_mapUpdate_own _ rfl _ _ _ 137 rfl 2 2 Hh underlying137 _ (w.heap.size+1) j _ rfl (hown.alloc _) (by unfold maxLen;omega) _ _ _ rfl rfl hkey _ [] (plainElem_int underlying2 W2) ?_;intro w1 hown1 hgrow1)
   have hm1:=Bp.put (k:=(T j).id) (v:=(T j).made) hD hm;rw[N9 (fun i=>(T i).id) (fun i=>(T i).made) j]at hm1;have A3:=A.alloc (.cells (T j) 42);refine⟨⟨j+1,by omega,by go_num,⟨_,hown1,hm1.1,hm1.2⟩,?_,?_⟩,by simp[intOf];omega⟩
   ·exact(hgrow1.block _ A3.lt (by simp)).trans A3
   ·exact(hB.alloc hB.size _).grown hgrow1 (by simp;omega) (fun i hi=>by cases hi;omega)
  ·have e:j=tn:=(by omega);subst e;have i1:¬(j:Int)<(j:Int):=(by omega);obtain⟨y0,y1⟩:=A.two;have c1:(on:Int)<=(ok:Int):=(by omega);have c2:(1:Int)<=(on:Int):=(by omega);clear HT HA y0;by_cases hok:ok=1
   ·obtain rfl:on=1:=by omega
    subst hok;go_wp2;go_loopw [27] (fun i wr'=>i= .int .i64 0/\Below w w wr') (fun i _=>0)
    case atStart=>exact⟨rfl,hB⟩
    case round=>
     obtain⟨rfl,hB'⟩:=hrel;go_wp2;go_ret;exact⟨Ah (by simp[Gq]),hB'⟩
   ·go_wp2;go_loopw [27] (fun i wr'=>∃q:Nat,q<=on-1/\i= .int .i64 q/\Hid (∀p,p<q->Fi j T (O (p+1)).id=true)/\Bp wr' (w.heap.size+1) j (look (fun i=>(T i).id) (fun i=>(T i).made) j)/\Below w w wr') (fun i _=>on-1-(intOf i).toNat)
    case atStart=>exact⟨0,Nat.zero_le _,rfl,hid (fun p hp=>by omega),HM,hB⟩
    case round=>
    obtain⟨q,hq,rfl,HN,HM',hB'⟩:=hrel;clear y1 A hB HM;by_cases hlt2:q<on-1
    ·obtain⟨_,_,ea,hlt0,hcc⟩:=HO.out.below hB' (by omega);cases ea;obtain⟨⟨q0,q1,q2,q3,q4,q5,q6,q7,q8,q9⟩,ht⟩:=hcc (q+1) (by omega);have ei:ooff+(q+1)*10=ooff+10+q*10:=(by omega);rw[ei]at q0 q1 q2 q3 q4 q5 q6 q7 q8 q9;have i2:(q:Int)<((on-1:Nat):Int):=(by omega);have hp:=HP.out (q+1) (by omega);simp only[Aq.val,AH.val,Aw.val]at q4 q6 q7 q9;have hww:=HW.out (q+1) (by omega);have hwb:=Pv hww;have ed:wrap64 ((O (q+1)).id.tdiv 1000)=(O (q+1)).id/1000:=by
      rw[Int.tdiv_eq_ediv_of_nonneg (by omega)];unfold wrap64;omega
     have n1:No (.cells (O (q+1)) 47):=⟨⟩;have LK:=(HM'.alloc n1).look (x:=(O (q+1)).id/1000) (Ho (by omega) (by omega));have em:((look (fun i=>(T i).id) (fun i=>(T i).made) j ((O (q+1)).id/1000)).getD 0)=madeOf j T ((O (q+1)).id/1000):=rfl;rw[em]at LK;have HMa:=HM'.alloc n1;clear hcc ht ei em hww hwb;go_wp2
     ·go_ret;have t1:madeOf j T ((O (q+1)).id/1000)<(O (q+1)).id%1000:=(by omega);refine⟨Ah ?_,hB'.alloc hB'.size _⟩;rw[Gq,GJ hlt2];have:decide ((O (q+1)).id%1000<=madeOf j T ((O (q+1)).id/1000))=false:=(by simp;omega);simp[Fi,this]
     ·have t1:(O (q+1)).id%1000<=madeOf j T ((O (q+1)).id/1000):=(by omega);have t0:1<=(O (q+1)).id%1000:=(by assumption);refine⟨⟨q+1,by omega,by go_num,hid (fun p hp=>?_),HMa,hB'.alloc hB'.size _⟩,by simp[intOf];omega⟩;by_cases e:p=q
      ·subst e;simp[Fi,t0,t1]
      ·exact HN.out p (by omega)
     ·go_ret;have t1:(O (q+1)).id%1000<1:=(by assumption);refine⟨Ah ?_,hB'.alloc hB'.size _⟩;rw[Gq,GJ hlt2];have:decide (1<=(O (q+1)).id%1000)=false:=(by simp;omega);simp[Fi,this]
    ·have e:q=on-1:=(by omega);subst e;go_wp2;go_ret;exact⟨Ah (by rw[Gq,Eh HN.out]),hB'⟩
open Go
variable {ids:Nat->Int}{n:Nat}{x:Int}
def FX:Option Nat->Int
 |none=> -1
 |some j=>j
theorem IJ{k:Nat}(hk:k<n)(he:ids k=x)(h:∀j,j<k->ids j≠x):Bh ids n x=some k:=by
 unfold Bh;rw[List.find?_range_eq_some];exact⟨by simpa using he,List.mem_range.2 hk,fun j hj=>by simpa using h j hj⟩
theorem Kf(h:∀j,j<n->ids j≠x):Bh ids n x=none:=by
 unfold Bh;rw[List.find?_eq_none];intro j hj;simpa using h j (List.mem_range.1 hj)
theorem JI(k:AF)(x:Int)(w:World)(hk:k.at w):
 Calls prog 74 #[k.val,.int .i64 x] w fun e w'=>e= .returned (.int .i64 (FX (Bh (fun i=>(k.O i).id) k.on x)))/\Below w w w':=by
 have n1:No (.cells #[.slice k.ta k.tn k.tk,.slice k.oa k.on k.ok] 27):=⟨⟩;have hb0:=(Below.refl _ w).alloc nr n1;have A0:=Ag.new w n1;have HT:=hid (hk.below hb0);have hn:=hk.2.1;unfold maxLen at hn;unfold AF.val;obtain⟨x0,x1⟩:=A0.two;clear hk A0;go_enter func74,ntmps74
 go_wp2;generalize w.alloc n1=W at *;go_loop [5] (fun i=>∃q:Nat,q<=k.on/\i= .int .i64 q/\Hid (∀j,j<q->(k.O j).id≠x)) (fun i=>k.on-(intOf i).toNat)
 case atStart=>exact⟨0,Nat.zero_le _,rfl,hid (fun j hj=>by omega)⟩
 case round=>
  obtain⟨q,hq,rfl,HA⟩:=hrel;by_cases hlt:q<k.on
  ·obtain⟨b,off,ea,_,hcc⟩:=HT.out.2.2.2 (by omega);have q0:=(hcc q hlt).1.c0;have i1:(q:Int)<(k.on:Int):=(by omega);rw[ea]at x1;clear hcc ea;by_cases e:(k.O q).id=x
   ·have HF:=hid (IJ (ids:=fun i=>(k.O i).id) hlt e HA);have e':((k.O q).id==x)=true:=(by simpa using e);clear e HA;go_wp2;go_ret;exact⟨Ew (by rw[HF.out];rfl),hb0⟩
   ·have e':((k.O q).id==x)=false:=(by simpa using e);have HA2:Hid (∀j,j<q+1->(k.O j).id≠x):=hid (fun j hj=>by
     by_cases ej:j=q
     ·subst ej;exact e
     ·exact HA.out j (by omega))
    clear e HA;go_wp2;exact⟨⟨q+1,by omega,by go_num,HA2⟩,by simp[intOf];omega⟩
  ·have i1:¬(q:Int)<(k.on:Int):=(by omega);have HF:=hid (Kf (ids:=fun i=>(k.O i).id) (n:=k.on) (x:=x) (fun j hj=>HA j (by omega)));clear HA;go_wp2;go_ret;exact⟨Ew (by rw[HF.out];rfl),hb0⟩
theorem Ih(k:AF)(x:Int)(w:World)(hk:k.at w):
 Calls prog 61 #[k.val,.int .i64 x] w fun e w'=>e= .returned (.int .i64 (FX (Bh (fun i=>(k.T i).id) k.tn x)))/\Below w w w':=by
 have n1:No (.cells #[.slice k.ta k.tn k.tk,.slice k.oa k.on k.ok] 27):=⟨⟩;have hb0:=(Below.refl _ w).alloc nr n1;have A0:=Ag.new w n1;have HT:=hid (hk.below hb0);have hn:=hk.1;unfold maxLen at hn;unfold AF.val;obtain⟨x0,x1⟩:=A0.two;clear hk A0;go_enter func61,ntmps61
 go_wp2;generalize w.alloc n1=W at *;go_loop [5] (fun i=>∃q:Nat,q<=k.tn/\i= .int .i64 q/\Hid (∀j,j<q->(k.T j).id≠x)) (fun i=>k.tn-(intOf i).toNat)
 case atStart=>exact⟨0,Nat.zero_le _,rfl,hid (fun j hj=>by omega)⟩
 case round=>
  obtain⟨q,hq,rfl,HA⟩:=hrel;by_cases hlt:q<k.tn
  ·obtain⟨b,off,ea,_,hcc⟩:=HT.out.2.2.1 (by omega);have q0:=(hcc q hlt).1.c0;have i1:(q:Int)<(k.tn:Int):=(by omega);rw[ea]at x0;clear hcc ea;by_cases e:(k.T q).id=x
   ·have HF:=hid (IJ (ids:=fun i=>(k.T i).id) hlt e HA);have e':((k.T q).id==x)=true:=(by simpa using e);clear e HA;go_wp2;go_ret;exact⟨Ew (by rw[HF.out];rfl),hb0⟩
   ·have e':((k.T q).id==x)=false:=(by simpa using e);have HA2:Hid (∀j,j<q+1->(k.T j).id≠x):=hid (fun j hj=>by
     by_cases ej:j=q
     ·subst ej;exact e
     ·exact HA.out j (by omega))
    clear e HA;go_wp2;exact⟨⟨q+1,by omega,by go_num,HA2⟩,by simp[intOf];omega⟩
  ·have i1:¬(q:Int)<(k.tn:Int):=(by omega);have HF:=hid (Kf (ids:=fun i=>(k.T i).id) (n:=k.tn) (x:=x) (fun j hj=>HA j (by omega)));clear HA;go_wp2;go_ret;exact⟨Ew (by rw[HF.out];rfl),hb0⟩
variable {k:AF}{n:Nat}{id:Int}
def FE(n:Nat)(O:Nat->Ab)(x:Int):Bool:=match Bh (fun i=>(O i).id) n x with
 |some u=>(O u).kind==3
 |none=>false
def Ir(n:Nat)(O:Nat->Ab):Bool:=(List.range (n-1)).all (fun i=>FE n O (O (i+1)).up)
def Bl(k:AF):Bool:=Br k.tn k.T&&Cl k.on k.O&&Gq k.tn k.T k.on k.O&&Ir k.on k.O&&E8 (fun i=>(k.O i).id) (fun i=>(k.O i).up) k.on
def GH(k:AF)(i:Nat):Bool:=Cz (k.O i)&&(if i=0 then Fs (k.O 0)else decide ((k.O (i-1)).id<(k.O i).id)&&Fi k.tn k.T (k.O i).id&&FE k.on k.O (k.O i).up)
theorem SJ(h1:1<=k.on)(h2:k.on<=271):(Cl k.on k.O&&Gq k.tn k.T k.on k.O&&Ir k.on k.O)=(List.range k.on).all (GH k):=by
 rw[Bool.eq_iff_iff];simp only[Bool.and_eq_true];constructor
 ·rintro⟨⟨ho,hn⟩,hu⟩;obtain⟨_,_,ha,hr⟩:=Cp ho;refine Eh fun i hi=>?_;have hai:=ha i hi;simp only[FK,Bool.and_eq_true]at hai;simp only[GH,hai.1,Bool.true_and];by_cases e:i=0
  ·rw[if_pos e];exact hr
  ·rw[if_neg e]at hai ⊢;have e1:i-1+1=i:=(by omega);have h3:=Gd hn (i-1) (by omega);have h4:=Gd hu (i-1) (by omega);simp only[e1]at h3 h4;simp only[hai.2,h3,h4,Bool.and_true]
 ·intro h;have ha:=Gd h;have h0:=ha 0 (by omega);simp only[GH,if_true,Bool.and_eq_true]at h0;refine⟨⟨?_,?_⟩,?_⟩
  ·have:(List.range k.on).all (FK k.O)=true:=Eh fun i hi=>by
    have hi':=ha i hi;simp only[GH,Bool.and_eq_true]at hi';simp only[FK,hi'.1,Bool.true_and];by_cases e:i=0
    ·rw[if_pos e];have:=h0.2;simp only[Fs,Bool.and_eq_true,beq_iff_eq]at this;simp[this.1.1]
    ·rw[if_neg e]at hi' ⊢;simp only[Bool.and_eq_true]at hi';exact hi'.2.1.1
   simp only[Cl,this,h0.2,Bool.and_true,Bool.and_eq_true,decide_eq_true_eq];exact⟨h1,h2⟩
  ·refine Eh fun i hi=>?_;have hi':=ha (i+1) (by omega);simp only[GH,Bool.and_eq_true]at hi';rw[if_neg (by omega)]at hi';simp only[Bool.and_eq_true]at hi';exact hi'.2.1.2
  ·refine Eh fun i hi=>?_;have hi':=ha (i+1) (by omega);simp only[GH,Bool.and_eq_true]at hi';rw[if_neg (by omega)]at hi';simp only[Bool.and_eq_true]at hi';exact hi'.2.2
theorem IY(ht:Br k.tn k.T=true)(h1:1<=k.on)(h2:k.on<=271):Bl k=((List.range k.on).all (GH k)&&E8 (fun i=>(k.O i).id) (fun i=>(k.O i).up) k.on):=by
 rw[Bl,ht,<-SJ h1 h2];simp[Bool.and_assoc]
theorem Gx(ht:Br k.tn k.T=false):Bl k=false:=by simp[Bl,ht]
theorem Hp(h:¬(1<=k.on/\k.on<=271)):Bl k=false:=by
 have:Cl k.on k.O=false:=by
  cases e:Cl k.on k.O with
  |false=>rfl
  |true=>obtain⟨a,b,_⟩:=Cp e;exact absurd ⟨a,b⟩ h
 simp[Bl,this]
theorem Ji{T:Nat->Ae}(h:Br n T=true):Dp (fun i=>(T i).id) n:=by
 obtain⟨_,_,ha⟩:=Dh h;intro i j hij;induction j with
 |zero=>omega
 |succ j ih=>
  intro hj;have h1:=ha (j+1) hj;simp[Ej]at h1;by_cases e:i=j
  ·subst e;exact h1.2
  ·have:=ih (by omega) (by omega);simp only at this ⊢;omega
theorem PM{ids g:Nat->Int}(h:Dp ids n)(x:Int):look ids g n x=(Bh ids n x).map g:=by
 induction n with
 |zero=>rfl
 |succ n ih=>
  have ih':=ih (fun i j hij hj=>h i j hij (by omega));rw[look];split
  ·rename_i e;rw[<-e,Dq h (Nat.lt_succ_self n)];rfl
  ·rename_i e;rw[ih'];congr 1;cases e1:Bh ids n x with
   |none=>
    symm;refine Kf fun j hj=>?_;by_cases ej:j=n
    ·subst ej;exact e
    ·exact Ig e1 j (by omega)
   |some j=>
    obtain⟨j1,j2⟩:=Ay e1;symm;rw[<-j2];exact Dq h (by omega)
theorem JC{T:Nat->Ae}(h:Br n T=true){t:Nat}(e:Bh (fun i=>(T i).id) n (id/1000)=some t):Fi n T id=DZ (id%1000) 1 (T t).made:=by
 have:madeOf n T (id/1000)=(T t).made:=by
  unfold madeOf;rw[PM (Ji h),e];rfl
 simp[Fi,this,DZ]
theorem MF{T:Nat->Ae}(h:Br n T=true)(e:Bh (fun i=>(T i).id) n (id/1000)=none):Fi n T id=false:=by
 have:madeOf n T (id/1000)=0:=by
  unfold madeOf;rw[PM (Ji h),e];rfl
 simp[Fi,this];intro _;omega
theorem ZE{i:Nat}(h:∀j,j<i->GH k j=true)(h0:0<i)(hl:(k.O (i-1)).id<(k.O i).id):1<=(k.O i).id:=by
 have:∀j,j<i->1<=(k.O j).id:=by
  intro j;induction j with
  |zero=>
   intro hj;have:=h 0 hj;simp only[GH,if_true,Bool.and_eq_true,Fs,beq_iff_eq]at this;omega
  |succ j ih=>
   intro hj;have h1:=ih (by omega);have:=h (j+1) hj;simp only[GH,Bool.and_eq_true]at this;rw[if_neg (by omega)]at this;simp only[Bool.and_eq_true,decide_eq_true_eq,Nat.add_sub_cancel]at this;omega
 have:=this (i-1) (by omega);omega
end Go.Proofs.YtbdagpckhfcneaaGreatDoor
