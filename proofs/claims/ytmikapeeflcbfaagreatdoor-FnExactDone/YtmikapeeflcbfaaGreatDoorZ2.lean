import Derived.Test.YtmikapeeflcbfaaGreatDoorZ1
import Derived.Test.YtmikapeeflcbfaaGreatDoorZ0
import Derived.Deep.AppendLies
import Derived.Laws.OwnMore
import Derived.WideShapes
import Derived.Maps.AppendAt
set_option maxRecDepth 100000
set_option maxHeartbeats 4000000
namespace Go.Proofs.YtmikapeeflcbfaaGreatDoor
open Go.RowKit Go.Deep Go.Proofs.Tryz
def DG(n:Nat)(f:Nat->ByteArray):Bool:=decide (n<=8)&&(List.range n).all (fun i=>Bp (f i) 40)
theorem Nl{n:Nat}{f:Nat->ByteArray}(e:8<n):DG n f=false:=by
 have:decide (n<=8)=false:=by simp;omega
 simp[DG,this]
theorem PR{n k:Nat}{f:Nat->ByteArray}(hk:k<n)(e:Bp (f k) 40=false):DG n f=false:=by
 have:(List.range n).all (fun i=>Bp (f i) 40)=false:=by
  rw[List.all_eq_false];exact⟨k,List.mem_range.2 hk,by simp[e]⟩
 simp[DG,this]
theorem Nm{n:Nat}{f:Nat->ByteArray}(e:∀i,i<n->Bp (f i) 40=true):DG n f=decide (n<=8):=by
 have:(List.range n).all (fun i=>Bp (f i) 40)=true:=by
  rw[List.all_eq_true];intro i hi;exact e i (List.mem_range.1 hi)
 simp[DG,this]
theorem Rl(a:Option Addr)(n cap:Nat)(f:Nat->ByteArray)(w:World)(hn:n<=maxLen)(hc:Ej w a n f)(hz:∀i,i<n->(f i).size<=maxLen):
 Calls prog 155 #[.slice a n cap] w fun e w'=>e= .returned (.bool (DG n f))/\Below w w w':=by
 unfold maxLen at hn;have HC:=hid hc;have HZ:=hid hz;clear hc hz;by_cases h8:8<n
 ·have h8':(8:Int)<(n:Int):=by omega
  go_enter func155,ntmps155
  go_wp2;go_ret;exact⟨Ag (Nl h8).symm,Below.refl _ _⟩
 ·have h8':¬(8:Int)<(n:Int):=by omega
  go_enter func155,ntmps155
  go_wp2;go_loopw [10] (fun i wr=>∃k:Nat,k<=n/\i= .int .i64 k/\Hid (∀j,j<k->Bp (f j) 40=true)/\Below w w wr) (fun i _=>n-(intOf i).toNat)
  case atStart=>exact⟨0,Nat.zero_le _,rfl,hid (fun j hj=>by omega),Below.refl _ _⟩
  case round=>
   obtain⟨k,hk,rfl,HA,hB⟩:=hrel;by_cases hlt:k<n
   ·obtain⟨b,off,rfl,hlt0,hcc⟩:=HC.out.below hB (by omega);have g1:=hcc k hlt;have z:=HZ.out k hlt;have i1:(k:Int)<(n:Int):=(by omega);clear hcc;go_wp2_with fail
    refine(Jg _ _ z).mono ?_;rintro e w1 ⟨rfl,hb1⟩;have B1:=Ae hB hb1;clear g1;by_cases t:Bp (f k) 40=true
    ·have HA2:Hid (∀j,j<k+1->Bp (f j) 40=true):=hid (fun j hj=>by
      by_cases e:j=k
      ·subst e;exact t
      ·exact HA.out j (by omega))
     go_wp2;exact⟨⟨k+1,by omega,by go_num,HA2,B1⟩,by simp[intOf];omega⟩
    ·have t':Bp (f k) 40=false:=(by simpa using t);clear t;go_wp2;go_ret;exact⟨Ag (PR hlt t').symm,B1⟩
   ·go_wp2;go_ret;have e:k=n:=(by omega);subst e;exact⟨Ag (by rw[Nm HA.out];simp;omega),hB⟩
def Ha(t:Ab):Bool:=
 if t.kind=1 then t.jA.n==0&&(t.own.n==0&&Dc t.b2 t.c2.n)
 else if t.kind=2 then t.data.toList.isEmpty&&(t.own.n==0&&Dc t.b2 t.c2.n)
 else if t.kind=3 then t.data.toList.isEmpty&&t.jA.n==0&&(t.own.n==0&&Dc t.b2 t.c2.n)
 else if t.kind=4 then t.data.toList.isEmpty&&t.jA.n==0
 else false
def Cn(t:Ab):Bool:=AX t.b1 t.c1.n t.c1.f t.c1.g&&AX t.b2 t.c2.n t.c2.f t.c2.g&&BK t.own.n t.own.h&&Bp t.data 40&&DG t.jA.n t.jA.f&&Ha t
theorem ah(n:Nat):((n:Int)==0)=(n==0):=by
 by_cases e:n=0
 ·subst e;rfl
 ·have e1:(n==0)=false:=by simpa using e
  rw[e1];simp;omega
theorem UG(b:Int)(c:Al)(w:World)(hc:c.at w):
 Calls prog 103 #[.agg #[.int .i64 b,c.val]] w fun e w'=>e= .returned (.bool (AX b c.n c.f c.g))/\Below w w w':=Dn b c.a c.n c.k c.f c.g w hc.1 hc.2
theorem YY(c:Av)(w:World)(hc:c.at w):
 Calls prog 154 #[c.val] w fun e w'=>e= .returned (.bool (BK c.n c.h))/\w'=w:=Hu c.a c.n c.k c.h w hc.1 hc.2
theorem Yk(c:Ao)(w:World)(hc:c.at w):
 Calls prog 155 #[c.val] w fun e w'=>e= .returned (.bool (DG c.n c.f))/\Below w w w':=Rl c.a c.n c.k c.f w hc.1 hc.2.1 hc.2.2
theorem ZG(b:Int)(c:Al)(w:World)(hc:c.at w):
 Calls prog 104 #[.agg #[.int .i64 b,c.val]] w fun e w'=>e= .returned (.bool (Dc b c.n))/\Below w w w':=Ja b c.a c.n c.k w hc.1
theorem Qi(t:Ab)(w:World)(ht:t.at w):
 Calls prog 126 #[t.val] w fun e w'=>e= .returned (.bool (Cn t))/\Below w w w':=by
 have n1:No (.cells #[t.id,t.kind,t.up,t.b1,t.c1.val,.string t.data,t.jA.val,t.own.val,t.b2,t.c2.val] 88):=⟨⟩;have hb0:=(Below.refl _ w).alloc (Nat.le_refl _) n1;have A0:=Ah.new w n1;have T0:=hid (ht.below hb0);unfold Ab.val;obtain⟨x0,x1,x2,x3,x4,x5,x6,x7,x8,x9⟩:=A0.jE;clear ht;go_enter func126,ntmps126
 go_wp2_with fail
 refine(UG _ t.c1 _ T0.out.1).mono ?_;rintro e w1 ⟨rfl,hb1⟩;have A1:=A0.below hb1;have T1:=hid (T0.out.below hb1);have B1:=Ae hb0 hb1;clear x0 x1 x2 x3 x4 x5 x6 x7 x8 x9 A0 T0 hb0 hb1;obtain⟨x0,x1,x2,x3,x4,x5,x6,x7,x8,x9⟩:=A1.jE;cases t1:AX t.b1 t.c1.n t.c1.f t.c1.g with
 |false=>
  go_wp2;go_ret;exact⟨Ag (by simp[Cn,t1]),B1⟩
 |true=>
 go_wp2_with fail
 refine(UG _ t.c2 _ T1.out.2.2.2.1).mono ?_;rintro e w2 ⟨rfl,hb2⟩;have A2:=A1.below hb2;have T2:=hid (T1.out.below hb2);have B2:=Ae B1 hb2;clear x0 x1 x2 x3 x4 x5 x6 x7 x8 x9 A1 T1 B1 hb2;obtain⟨x0,x1,x2,x3,x4,x5,x6,x7,x8,x9⟩:=A2.jE;cases t2:AX t.b2 t.c2.n t.c2.f t.c2.g with
 |false=>
  go_wp2;go_ret;exact⟨Ag (by simp[Cn,t2]),B2⟩
 |true=>
 go_wp2_with fail
 refine(YY t.own _ T2.out.2.2.1).mono ?_;rintro e w3 ⟨rfl,rfl⟩;cases t3:BK t.own.n t.own.h with
 |false=>
  go_wp2;go_ret;exact⟨Ag (by simp[Cn,t3]),B2⟩
 |true=>
 go_wp2_with fail
 refine(Jg t.data _ T2.out.2.2.2.2).mono ?_;rintro e w4 ⟨rfl,hb4⟩;have A4:=A2.below hb4;have T4:=hid (T2.out.below hb4);have B4:=Ae B2 hb4;clear x0 x1 x2 x3 x4 x5 x6 x7 x8 x9 A2 T2 B2 hb4;obtain⟨x0,x1,x2,x3,x4,x5,x6,x7,x8,x9⟩:=A4.jE;cases t4:Bp t.data 40 with
 |false=>
  go_wp2;go_ret;exact⟨Ag (by simp[Cn,t4]),B4⟩
 |true=>
 go_wp2_with fail
 refine(Yk t.jA _ T4.out.2.1).mono ?_;rintro e w5 ⟨rfl,hb5⟩;have A5:=A4.below hb5;have T5:=hid (T4.out.below hb5);have B5:=Ae B4 hb5;clear x0 x1 x2 x3 x4 x5 x6 x7 x8 x9 A4 T4 B4 hb5;obtain⟨x0,x1,x2,x3,x4,x5,x6,x7,x8,x9⟩:=A5.jE;cases t5:DG t.jA.n t.jA.f with
 |false=>
  go_wp2;go_ret;exact⟨Ag (by simp[Cn,t5]),B5⟩
 |true=>
 have OK:Hid (Cn t=Ha t):=hid (by simp[Cn,t1,t2,t3,t4,t5]);clear t1 t2 t3 t4 t5;unfold Ao.val at x6;go_wp2_with fail
 have hn5:=T5.out.2.1.1;unfold maxLen at hn5;go_quiet(fail)
 unfold Av.val at x7;have hn6:=T5.out.2.2.1.1;unfold maxLen at hn6;have Z:=hid (ZG t.b2 t.c2 _ (T5.out.below (below_drewN (Below.refl _ w5) nq)).2.2.2.1);have B6:=below_drewN B5 nq;go_wp2_with(go_at_call 104;refine Z.out.mono ?_;rintro e w6 ⟨rfl,hb6⟩;have x1':=(hb6.cell (p:=⟨w,1,none⟩) A5.lt).trans x1;have B7:=Ae B6 hb6)
 all_goals
  go_ret;refine⟨Ag ?_,by assumption⟩;rw[OK.out];first
  |(simp_all[Ha];done)
  |(simp_all[Ha];exact ah _)
def Bd(ids:Nat->Int)(n:Nat)(x:Int):Option Nat:=(List.range n).find? (fun j=>ids j==x)
def IM(ids ups:Nat->Int)(n i:Nat):Option Nat:=if i=0 then none else Bd ids n (ups i)
def Bg(ids ups:Nat->Int)(n:Nat):Nat->Nat->Option Nat
 |0,i=>some i
 |m+1,i=>(IM ids ups n i).bind (Bg ids ups n m)
def CX(ids ups:Nat->Int)(n i:Nat):List Nat:=(List.range n).filter (fun j=>ups j==ids i)
def EJ(ids ups:Nat->Int)(n:Nat):Nat->Nat->List Nat
 |0,_=>[]
 |f+1,i=>i::(CX ids ups n i).flatMap (EJ ids ups n f)
def CM(ids:Nat->Int)(n:Nat):Prop:=∀i j,i<j->j<n->ids i<ids j
theorem AE{ids:Nat->Int}{n:Nat}{x:Int}{j:Nat}(h:Bd ids n x=some j):j<n/\ids j=x:=by
 unfold Bd at h;exact⟨List.mem_range.1 (List.mem_of_find?_eq_some h),by simpa using List.find?_some h⟩
theorem Ho{ids:Nat->Int}{n:Nat}{x:Int}(h:Bd ids n x=none):∀j,j<n->ids j≠x:=by
 unfold Bd at h;rw[List.find?_eq_none]at h;intro j hj e;have:=h j (List.mem_range.2 hj);simp[e]at this
theorem CM.inj{ids:Nat->Int}{n:Nat}(h:CM ids n){i j:Nat}(hi:i<n)(hj:j<n)(e:ids i=ids j):i=j:=by
 rcases Nat.lt_trichotomy i j with h1|h1|h1
 ·have:=h i j h1 hj;omega
 ·exact h1
 ·have:=h j i h1 hi;omega
theorem De{ids:Nat->Int}{n:Nat}(h:CM ids n){j:Nat}(hj:j<n):Bd ids n (ids j)=some j:=by
 cases e:Bd ids n (ids j)with
 |none=>exact absurd rfl (Ho e j hj)
 |some k=>
  obtain⟨h1,h2⟩:=AE e;rw[h.inj h1 hj h2]
section
variable {ids ups:Nat->Int}{n:Nat}
theorem Ef(a b i:Nat):Bg ids ups n (a+b) i=(Bg ids ups n a i).bind (Bg ids ups n b):=by
 induction a generalizing i with
 |zero=>simp[Bg]
 |succ a ih=>
  rw[Nat.succ_add];simp only[Bg];cases IM ids ups n i with
  |none=>rfl
  |some k=>simp only[Option.bind_some];exact ih k
theorem OZ(i:Nat):Bg ids ups n 1 i=IM ids ups n i:=by
 simp only[Bg];cases IM ids ups n i<;>rfl
theorem Di(m i:Nat):Bg ids ups n (m+1) i=(Bg ids ups n m i).bind (IM ids ups n):=by
 rw[Ef];congr 1;funext j;exact OZ j
theorem MZ{i j:Nat}(h:IM ids ups n i=some j):j<n:=by
 unfold IM at h;split at h
 ·cases h
 ·exact(AE h).1
theorem Sm{m i j:Nat}(hi:i<n)(h:Bg ids ups n m i=some j):j<n:=by
 cases m with
 |zero=>simp only[Bg,Option.some.injEq]at h;omega
 |succ m=>
  rw[Di]at h;cases e:Bg ids ups n m i with
  |none=>simp[e]at h
  |some k=>simp only[e,Option.bind_some]at h;exact MZ h
def Gx(ids ups:Nat->Int)(n i:Nat):Prop:=∀p,Bg ids ups n (p+1) i≠some i
theorem Fs:Gx ids ups n 0:=fun p h=>by simp[Bg,IM]at h
theorem VA{i k:Nat}(h:Gx ids ups n i)(hk:IM ids ups n k=some i):Gx ids ups n k:=fun p e=>by
 have e1:Bg ids ups n p i=some k:=by
  have:=e;simp only[Bg,hk,Option.bind_some]at this;exact this
 exact h p (by rw[Di,e1];exact hk)
theorem Ng{i k m:Nat}(h:Gx ids ups n i)(hk:Bg ids ups n m k=some i):Gx ids ups n k:=fun p e=>by
 have e2:Bg ids ups n (p+1+m) k=some i:=by rw[Ef,e];exact hk
 rw[Nat.add_comm,Ef,hk]at e2;exact h p e2
theorem Hn(n:Nat)(l:List Nat)(h:∀x∈l,x<n):l.length=((List.range n).map (fun j=>l.count j)).sum:=by
 induction l with
 |nil=>
  have:∀L:List Nat,(L.map (fun j=>([]:List Nat).count j)).sum=0:=by
   intro L;induction L with
   |nil=>rfl
   |cons a L ih=>rw[List.map_cons,List.sum_cons,ih];rfl
  rw[this];rfl
 |cons a l ih=>
  have h1:=ih (fun x hx=>h x (List.mem_cons_of_mem _ hx));have ha:a<n:=h a List.mem_cons_self;have key:∀N,(((List.range N).map (fun j=>(a::l).count j)).sum)=((List.range N).map (fun j=>l.count j)).sum+(if a<N then 1 else 0):=by
   intro N;induction N with
   |zero=>simp
   |succ N ihN=>
    rw[List.range_succ,List.map_append,List.sum_append,List.map_append,List.sum_append,ihN];simp only[List.map_cons,List.map_nil,List.sum_cons,List.sum_nil,List.count_cons];by_cases e:a=N
    ·subst e;simp;omega
    ·have e1:(a==N)=false:=(by simpa using e);simp only[e1];by_cases e2:a<N
     ·have:a<N+1:=(by omega);simp[e2,this];omega
     ·have:¬a<N+1:=(by omega);simp[e2,this]
  rw[key,if_pos ha,List.length_cons,h1]
theorem Mj(n:Nat)(c:Nat->Nat)(h:∀j,c j<=1):((List.range n).map c).sum<=n:=by
 induction n with
 |zero=>simp
 |succ n ih=>rw[List.range_succ,List.map_append,List.sum_append];have:=h n;simp;omega
theorem Xh(n:Nat)(c:Nat->Nat)(h:∀j,c j<=1)(e:((List.range n).map c).sum=n):∀j,j<n->c j=1:=by
 induction n with
 |zero=>intro j hj;omega
 |succ n ih=>
  rw[List.range_succ,List.map_append,List.sum_append]at e;simp at e;have h1:=Mj n c h;have h2:=h n;intro j hj;by_cases e1:j=n
  ·subst e1;omega
  ·exact ih (by omega) j (by omega)
theorem Yp(n:Nat)(c:Nat->Nat)(h:∀j,j<n->c j=1):((List.range n).map c).sum=n:=by
 induction n with
 |zero=>simp
 |succ n ih=>rw[List.range_succ,List.map_append,List.sum_append,ih (fun j hj=>h j (by omega))];simp[h n (by omega)]
theorem Ga{l:List Nat}(hl:l.Nodup)(h:∀x∈l,x<n):l.length<=n:=by
 rw[Hn n l h];exact Mj n _ (fun j=>List.nodup_iff_count.1 hl j)
theorem Uf{l:List Nat}(hl:l.Nodup)(h:∀x∈l,x<n):l.length=n↔∀j,j<n->j∈l:=by
 constructor
 ·intro e j hj;rw[Hn n l h]at e;have:=Xh n _ (fun j=>List.nodup_iff_count.1 hl j) e j hj;exact List.count_pos_iff.1 (by omega)
 ·intro e;rw[Hn n l h];refine Yp n _ (fun j hj=>?_);have h1:=List.nodup_iff_count.1 hl j;have h2:=List.count_pos_iff.2 (e j hj);omega
theorem Nk{i j m:Nat}(hc:Gx ids ups n i)(hj:j<n)(h:Bg ids ups n m j=some i):m<n:=by
 have each:∀q,q<=m->∃x,Bg ids ups n q j=some x:=fun q hq=>by
  have e:m=q+(m-q):=by omega
  rw[e,Ef]at h;cases e1:Bg ids ups n q j with
  |none=>simp[e1]at h
  |some x=>exact⟨x,rfl⟩
 have hl:((List.range (m+1)).map (fun q=>(Bg ids ups n q j).getD 0)).Nodup:=by
  rw[List.Nodup,List.pairwise_map];refine List.Pairwise.imp_of_mem ?_ (List.pairwise_lt_range (n:=m+1));intro a b ha hb hab e;have ha':=List.mem_range.1 ha;have hb':=List.mem_range.1 hb;obtain⟨x,hx⟩:=each a (by omega);obtain⟨y,hy⟩:=each b (by omega);simp only[hx,hy,Option.getD_some]at e;subst e;have e1:b=a+(b-a-1+1):=by omega
  rw[e1,Ef,hx,Option.bind_some]at hy;have e2:m=a+(m-a):=by omega
  rw[e2,Ef,hx,Option.bind_some]at h;exact Ng hc h _ hy
 have:=Ga (n:=n) hl (by
  intro x hx;obtain⟨q,hq,rfl⟩:=List.mem_map.1 hx;have hq':=List.mem_range.1 hq;obtain⟨y,hy⟩:=each q (by omega);rw[hy];exact Sm hj hy)
 simp at this;omega
theorem Fe(hr:CM ids n)(h0:∀j,j<n->ids j≠ups 0){i k:Nat}(hi:i<n):k∈CX ids ups n i↔k<n/\IM ids ups n k=some i:=by
 unfold CX;rw[List.mem_filter,List.mem_range];constructor
 ·rintro⟨h1,h2⟩;refine⟨h1,?_⟩;have h2':ups k=ids i:=by simpa using h2
  unfold IM;split
  ·rename_i e;subst e;exact absurd h2'.symm (h0 i hi)
  ·rw[h2'];exact De hr hi
 ·rintro⟨h1,h2⟩;refine⟨h1,?_⟩;unfold IM at h2;split at h2
  ·cases h2
  ·simp[(AE h2).2]
theorem DT(hr:CM ids n)(h0:∀j,j<n->ids j≠ups 0){f i j:Nat}(hi:i<n):j∈EJ ids ups n f i↔j<n/\∃m,m<f/\Bg ids ups n m j=some i:=by
 induction f generalizing i with
 |zero=>simp[EJ]
 |succ f ih=>
  simp only[EJ,List.mem_cons,List.mem_flatMap];constructor
  ·rintro(rfl|⟨k,hk,hj⟩)
   ·exact⟨hi,0,by omega,rfl⟩
   ·obtain⟨k1,k2⟩:=(Fe hr h0 hi).1 hk;obtain⟨hj',m,hm,e⟩:=(ih k1).1 hj;exact⟨hj',m+1,by omega,by rw[Di,e];exact k2⟩
  ·rintro⟨hj,m,hm,e⟩;cases m with
   |zero=>simp only[Bg,Option.some.injEq]at e;exact .inl e
   |succ m=>
    rw[Di]at e;cases e1:Bg ids ups n m j with
    |none=>simp[e1]at e
    |some k=>
     simp only[e1,Option.bind_some]at e;have hk:=Sm hj e1;exact .inr ⟨k,(Fe hr h0 hi).2 ⟨hk,e⟩,(ih hk).2 ⟨hj,m,by omega,e1⟩⟩
theorem G6(hr:CM ids n)(h0:∀j,j<n->ids j≠ups 0){f i:Nat}(hi:i<n)(hc:Gx ids ups n i):(EJ ids ups n f i).Nodup:=by
 induction f generalizing i with
 |zero=>simp[EJ]
 |succ f ih=>
  simp only[EJ,List.nodup_cons,List.mem_flatMap];refine⟨?_,?_⟩
  ·rintro⟨k,hk,hj⟩;obtain⟨k1,k2⟩:=(Fe hr h0 hi).1 hk;obtain⟨_,m,_,e⟩:=(DT hr h0 k1).1 hj;exact hc m (by rw[Di,e];exact k2)
  ·rw[List.Nodup,List.pairwise_flatMap];refine⟨fun k hk=>?_,?_⟩
   ·obtain⟨k1,k2⟩:=(Fe hr h0 hi).1 hk;exact ih k1 (VA hc k2)
   ·have hn:(CX ids ups n i).Nodup:=List.Nodup.sublist List.filter_sublist List.nodup_range;refine List.Pairwise.imp_of_mem ?_ hn;intro a b ha hb hab x hx y hy exy;subst exy;obtain⟨a1,a2⟩:=(Fe hr h0 hi).1 ha;obtain⟨b1,b2⟩:=(Fe hr h0 hi).1 hb;obtain⟨_,p,_,ep⟩:=(DT hr h0 a1).1 hx;obtain⟨_,q,_,eq⟩:=(DT hr h0 b1).1 hy;have far:∀{a b p q:Nat},IM ids ups n a=some i->IM ids ups n b=some i->Bg ids ups n p x=some a->Bg ids ups n q x=some b->p<q->False:=by
     intro a b p q a2 b2 ep eq hpq;have e1:q=p+(q-p-1+1):=(by omega);rw[e1,Ef,ep,Option.bind_some]at eq;simp only[Bg,a2,Option.bind_some]at eq;exact hc (q-p-1) (by rw[Di,eq];exact b2)
    rcases Nat.lt_trichotomy p q with h|h|h
    ·exact far a2 b2 ep eq h
    ·subst h;rw[ep]at eq;exact hab (by simpa using eq)
    ·exact far b2 a2 eq ep h
def Eh(ids ups:Nat->Int)(n:Nat):Bool:=(List.range n).all fun i=>(List.range n).any fun m=>Bg ids ups n m i==some 0
theorem Fo:Eh ids ups n=true↔∀i,i<n->∃m,m<n/\Bg ids ups n m i=some 0:=by
 simp only[Eh,List.all_eq_true,List.any_eq_true,List.mem_range,beq_iff_eq]
theorem XU(hr:CM ids n)(h0:∀j,j<n->ids j≠ups 0)(hn:0<n):((EJ ids ups n n 0).length=n)↔Eh ids ups n=true:=by
 rw[Uf (G6 hr h0 hn Fs) (fun x hx=>((DT hr h0 hn).1 hx).1),Fo];constructor
 ·intro h i hi;exact((DT hr h0 hn).1 (h i hi)).2
 ·intro h i hi;exact(DT hr h0 hn).2 ⟨hi,h i hi⟩
theorem MK{i m:Nat}(h:Bg ids ups n m i=some 0):Gx ids ups n i:=Ng Fs h
end
def CS(t:Ac):Bool:=Df t.id t.made t.b1 t.c1.n t.c1.f t.c1.g t.b2 t.c2.n t.c2.f t.c2.g t.own.n t.own.h
theorem VG(t:Ac)(w:World)(ht:t.at w):
 Calls prog 125 #[t.val] w fun e w'=>e= .returned (.bool (CS t))/\Below w w w':=Ir _ _ _ _ _ _ _ _ _ _ _ _ _ _ _ _ _ _ w ht.1.1 ht.2.1.1 ht.2.2.1 ht.1.2 ht.2.1.2 ht.2.2.2
def DK(T:Nat->Ac)(i:Nat):Bool:=CS (T i)&&(i==0||decide ((T (i-1)).id<(T i).id))
def Bq(n:Nat)(T:Nat->Ac):Bool:=decide (1<=n)&&decide (n<=9)&&(List.range n).all (DK T)
def Fi(O:Nat->Ab)(i:Nat):Bool:=Cn (O i)&&(if i=0 then decide (0<(O 0).id)else decide ((O (i-1)).id<(O i).id))
def E7(t:Ab):Bool:=t.id==1&&t.kind==3&&t.up==0
def BQ(n:Nat)(O:Nat->Ab):Bool:=decide (1<=n)&&decide (n<=271)&&(List.range n).all (Fi O)&&E7 (O 0)
theorem Gh{n k:Nat}{p:Nat->Bool}(hk:k<n)(e:p k=false):(List.range n).all p=false:=by
 rw[List.all_eq_false];exact⟨k,List.mem_range.2 hk,by simp[e]⟩
theorem DV{n:Nat}{p:Nat->Bool}(e:∀i,i<n->p i=true):(List.range n).all p=true:=by
 rw[List.all_eq_true];intro i hi;exact e i (List.mem_range.1 hi)
theorem Fx{n:Nat}{p:Nat->Bool}(e:(List.range n).all p=true):∀i,i<n->p i=true:=fun i hi=>List.all_eq_true.1 e i (List.mem_range.2 hi)
theorem J6{t:Ac}(h:CS t=true):1<=t.id/\t.id<=9:=by
 unfold CS Df at h;simp only[Bool.and_eq_true]at h;exact DL.1 (by simp_all)
theorem Xn{T:Nat->Ac}{k:Nat}(h:CS (T k)=true)(e:(T k).id<=lastOf (fun i=>(T i).id) k):DK T k=false:=by
 have h1:=J6 h;by_cases e0:k=0
 ·subst e0;simp[lastOf]at e;omega
 ·simp[lastOf,e0]at e;have:decide ((T (k-1)).id<(T k).id)=false:=by simp;omega
  simp[DK,e0,this]
theorem Vg{T:Nat->Ac}{k:Nat}(h:CS (T k)=true)(e:¬(T k).id<=lastOf (fun i=>(T i).id) k):DK T k=true:=by
 by_cases e0:k=0
 ·subst e0;simp[DK,h]
 ·simp[lastOf,e0]at e;simp[DK,h,e]
theorem Ya{O:Nat->Ab}{k:Nat}(e:(O k).id<=lastOf (fun i=>(O i).id) k):Fi O k=false:=by
 by_cases e0:k=0
 ·subst e0;simp[lastOf]at e;simp[Fi];intro _;omega
 ·simp[lastOf,e0]at e;have:decide ((O (k-1)).id<(O k).id)=false:=by simp;omega
  simp[Fi,e0,this]
theorem VS{O:Nat->Ab}{k:Nat}(h:Cn (O k)=true)(e:¬(O k).id<=lastOf (fun i=>(O i).id) k):Fi O k=true:=by
 by_cases e0:k=0
 ·subst e0;simp[lastOf]at e;simp[Fi,h,e]
 ·simp[lastOf,e0]at e;simp[Fi,h,e,e0]
def Ac.blk(t:Ac):Obj:= .cells #[t.id,t.b1,t.c1.val,t.b2,t.c2.val,t.own.val,t.made] 86
theorem Ah.c0{W:World}{P t:Nat}{cs:Array Value}(h:Ah W P (.cells cs t))(i:Nat){v:Value}(hv:cs[i]? =some v):W.cell? ⟨P,i,none⟩=some v:=by
 unfold Ah at h;simp[World.cell?,h,hv]
theorem Of(a:Option Addr)(n cap:Nat)(T:Nat->Ac)(w:World)(hn:n<=maxLen)(hT:E9 w a n T):
 Calls prog 98 #[.slice a n cap] w fun e w'=>e= .returned (.bool (Bq n T))/\Below w w w':=by
 unfold maxLen at hn;have HT:=hid hT;clear hT;by_cases h1:n<1
 ·have h1':(n:Int)<1:=by omega
  go_enter func98,ntmps98
  go_wp2;go_ret;have:n=0:=by omega
  exact⟨Ag (by simp[Bq,this]),Below.refl _ _⟩
 have h1':¬(n:Int)<1:=by omega
 by_cases h9:9<n
 ·have h9':(9:Int)<(n:Int):=by omega
  go_enter func98,ntmps98
  go_wp2;go_ret;have:decide (n<=9)=false:=by simp;omega
  exact⟨Ag (by simp[Bq,this]),Below.refl _ _⟩
 have h9':¬(9:Int)<(n:Int):=by omega
 go_enter func98,ntmps98
 go_wp2;go_loopw [3,16] (fun l i wr=>∃k:Nat,k<=n/\i= .int .i64 k/\l= .int .i64 (lastOf (fun i=>(T i).id) k)/\Hid (∀j,j<k->DK T j=true)/\Below w w wr) (fun _ i _=>n-(intOf i).toNat)
 case atStart=>exact⟨0,Nat.zero_le _,rfl,rfl,hid (fun j hj=>by omega),Below.refl _ _⟩
 case round=>
  obtain⟨k,hk,rfl,rfl,HA,hB⟩:=hrel;by_cases hlt:k<n
  ·obtain⟨b,off,rfl,hlt0,hcc⟩:=HT.out.below hB (by omega);obtain⟨⟨q0,q1,q2,q3,q4,q5,q6⟩,ht⟩:=hcc k hlt;have i1:(k:Int)<(n:Int):=(by omega);have b1:Below wr wr (wr.alloc (T k).blk):=(Below.refl _ wr).alloc (Nat.le_refl _) _;have SZ:=hid (VG (T k) _ (ht.below b1));have A0:=Ah.new wr (T k).blk;have B0:=Ae hB b1;simp only[Al.val,Av.val,Ac.blk,Ac.val]at q2 q4 q5 SZ A0 b1 B0;clear hcc ht;go_wp2_with fail
   refine SZ.out.mono ?_;rintro e w2 ⟨rfl,hb2⟩;have A2:=A0.below hb2;have x0:=A2.c0 0 rfl;have B2:=Ae B0 hb2;clear q0 q1 q2 q3 q4 q5 q6 SZ hb2 A0 B0 b1 hlt0;cases t1:CS (T k)with
   |false=>
    go_wp2;go_ret;exact⟨Ag (by rw[Bq,Gh hlt (by simp[DK,t1])];simp),B2⟩
   |true=>
    by_cases t2:(T k).id<=lastOf (fun i=>(T i).id) k
    ·go_wp2;go_ret;exact⟨Ag (by rw[Bq,Gh hlt (Xn t1 t2)];simp),B2⟩
    ·have HA2:Hid (∀j,j<k+1->DK T j=true):=hid (fun j hj=>by
      by_cases e:j=k
      ·subst e;exact Vg t1 t2
      ·exact HA.out j (by omega))
     go_wp2;exact⟨⟨k+1,by omega,by go_num,by rw[Gz],HA2,B2⟩,by simp[intOf];omega⟩
  ·go_wp2;go_ret;have e:k=n:=(by omega);subst e;refine⟨Ag ?_,hB⟩;rw[Bq,DV HA.out];simp;omega
theorem Oz(a:Option Addr)(n cap:Nat)(O:Nat->Ab)(w:World)(hn:n<=maxLen)(hT:Et w a n O):
 Calls prog 99 #[.slice a n cap] w fun e w'=>e= .returned (.bool (BQ n O))/\Below w w w':=by
 unfold maxLen at hn;have HT:=hid hT;clear hT;by_cases h1:n<1
 ·have h1':(n:Int)<1:=by omega
  go_enter func99,ntmps99
  go_wp2;go_ret;have:n=0:=by omega
  exact⟨Ag (by simp[BQ,this]),Below.refl _ _⟩
 have h1':¬(n:Int)<1:=by omega
 by_cases h9:271<n
 ·have h9':(271:Int)<(n:Int):=by omega
  go_enter func99,ntmps99
  go_wp2;go_ret;have:decide (n<=271)=false:=by simp;omega
  exact⟨Ag (by simp[BQ,this]),Below.refl _ _⟩
 have h9':¬(271:Int)<(n:Int):=by omega
 go_enter func99,ntmps99
 go_wp2;go_loopw [3,17] (fun l i wr=>∃k:Nat,k<=n/\i= .int .i64 k/\l= .int .i64 (lastOf (fun i=>(O i).id) k)/\Hid (∀j,j<k->Fi O j=true)/\Below w w wr) (fun _ i _=>n-(intOf i).toNat)
 case atStart=>exact⟨0,Nat.zero_le _,rfl,rfl,hid (fun j hj=>by omega),Below.refl _ _⟩
 case round=>
  obtain⟨k,hk,rfl,rfl,HA,hB⟩:=hrel;by_cases hlt:k<n
  ·obtain⟨b,off,rfl,hlt0,hcc⟩:=HT.out.below hB (by omega);obtain⟨⟨q0,q1,q2,q3,q4,q5,q6,q7,q8,q9⟩,ht⟩:=hcc k hlt;have i1:(k:Int)<(n:Int):=(by omega);have b1:Below wr wr (wr.alloc (.cells #[.int .i64 (O k).id,.int .i64 (O k).kind,.int .i64 (O k).up,.int .i64 (O k).b1,(O k).c1.val,.string (O k).data,(O k).jA.val,(O k).own.val,.int .i64 (O k).b2,(O k).c2.val] 88)):=(Below.refl _ wr).alloc (Nat.le_refl _) _;have SZ:=hid (Qi (O k) _ (ht.below b1));have A0:=Ah.new wr (.cells #[.int .i64 (O k).id,.int .i64 (O k).kind,.int .i64 (O k).up,.int .i64 (O k).b1,(O k).c1.val,.string (O k).data,(O k).jA.val,(O k).own.val,.int .i64 (O k).b2,(O k).c2.val] 88);have B0:=Ae hB b1;simp only[Al.val,Av.val,Ao.val,Ab.val]at q4 q6 q7 q9 SZ A0 b1 B0;clear hcc ht;go_wp2_with fail
   refine SZ.out.mono ?_;rintro e w2 ⟨rfl,hb2⟩;have A2:=A0.below hb2;have x0:=A2.c0 0 rfl;have B2:=Ae B0 hb2;clear q0 q1 q2 q3 q4 q5 q6 q7 q8 q9 SZ hb2 A0 B0 b1 hlt0;cases t1:Cn (O k)with
   |false=>
    go_wp2;go_ret;exact⟨Ag (by rw[BQ,Gh hlt (by simp[Fi,t1])];simp),B2⟩
   |true=>
    by_cases t2:(O k).id<=lastOf (fun i=>(O i).id) k
    ·go_wp2;go_ret;exact⟨Ag (by rw[BQ,Gh hlt (Ya t2)];simp),B2⟩
    ·have HA2:Hid (∀j,j<k+1->Fi O j=true):=hid (fun j hj=>by
      by_cases e:j=k
      ·subst e;exact VS t1 t2
      ·exact HA.out j (by omega))
     go_wp2;exact⟨⟨k+1,by omega,by go_num,by rw[Gz],HA2,B2⟩,by simp[intOf];omega⟩
  ·have e:k=n:=(by omega);subst e;obtain⟨b,off,rfl,hlt0,hcc⟩:=HT.out.below hB (by omega);obtain⟨⟨q0,q1,q2,q3,q4,q5,q6,q7,q8,q9⟩,ht⟩:=hcc 0 (by omega);simp only[Nat.zero_mul,Nat.add_zero]at q0 q1 q2 q3 q4 q5 q6 q7 q8 q9;have i0:(0:Int)<(k:Int):=(by omega);have OK:Hid (BQ k O=E7 (O 0)):=hid (by
    have d1:decide (1<=k)=true:=(by simp;omega);have d2:decide (k<=271)=true:=(by simp;omega);rw[BQ,DV HA.out,d1,d2];rfl)
   simp only[Al.val,Av.val,Ao.val]at q4 q6 q7 q9;clear hcc ht HA;go_wp2;all_goals
    go_ret;refine⟨Ag ?_,hB.alloc hB.size _⟩;rw[OK.out];clear q0 q1 q2 q3 q4 q5 q6 q7 q8 q9;simp_all[E7]
open Go.Maps
open Go.WideShapes (add_plain)
def Cj(f g:Nat->Int)(n:Nat):List Value:=(List.range (n*2)).map (AO f g)
theorem Cf(f g:Nat->Int)(n:Nat):(Cj f g n).length=n*2:=by simp[Cj]
theorem CN(f g:Nat->Int)(n j:Nat)(h:j<n*2):(Cj f g n)[j]? =some (AO f g j):=by simp[Cj,h]
theorem Jz(f g:Nat->Int)(n:Nat):∀u∈Cj f g n,u.oneCell'=true:=by
 intro u hu;obtain⟨j,_,rfl⟩:=List.mem_map.1 hu;unfold AO;split<;>rfl
def glue(n:Nat)(f f':Nat->Int)(i:Nat):Int:=if i<n then f i else f' (i-n)
theorem Hz(f g f' g':Nat->Int)(n m:Nat):Cj f g n++Cj f' g' m=Cj (glue n f f') (glue n g g') (n+m):=by
 apply List.ext_getElem?;intro j;by_cases h1:j<n*2
 ·rw[List.getElem?_append_left (by rw[Cf];exact h1),CN _ _ _ _ h1,CN _ _ _ _ (by omega)];have:j/2<n:=by omega
  simp[AO,glue,this]
 ·rw[List.getElem?_append_right (by rw[Cf];omega),Cf];by_cases h2:j<(n+m)*2
  ·rw[CN _ _ _ _ (by omega),CN _ _ _ _ h2];have a1:¬j/2<n:=(by omega);have a2:(j-n*2)/2=j/2-n:=(by omega);have a3:(j-n*2)%2=j%2:=(by omega);simp[AO,glue,a1,a2,a3]
  ·rw[List.getElem?_eq_none (by rw[Cf];omega),List.getElem?_eq_none (by rw[Cf];omega)]
def Br(w:World)(B:Nat)(v:Value)(n:Nat)(f g:Nat->Int):Prop:=w.ownsRow B 145 2 v n (Cj f g n)
theorem Br.nil(w:World)(B:Nat)(f g:Nat->Int):Br w B (.slice none 0 0) 0 f g:=World.ownsRow_nil _ _ _ _
theorem Br.cats{w:World}{B n c:Nat}{a:Option Addr}{f g:Nat->Int}(h:Br w B (.slice a n c) n f g):An w a n f g:=fun hn=>by
 obtain⟨gb,cap,hv,_,hlt⟩:=World.ownsRow.form h hn;simp only[Value.slice.injEq]at hv;obtain⟨rfl,_,_⟩:=hv;have hc:=World.ownsRow.cells h (g:=gb) rfl;refine⟨gb,0,rfl,hlt,fun i hi=>⟨?_,?_⟩⟩
 ·have t:=hc (i*2) _ (CN f g n (i*2) (by omega));rw[add_plain]at t;rw[t];have e1:i*2%2=0:=by omega
  have e2:i*2/2=i:=by omega
  simp only[AO,e1,e2,if_true]
 ·have t:=hc (i*2+1) _ (CN f g n (i*2+1) (by omega));rw[add_plain,<-Nat.add_assoc]at t;rw[t];have e1:¬(i*2+1)%2=0:=by omega
  have e2:(i*2+1)/2=i:=by omega
  simp only[AO,e2,if_neg e1]
theorem Br.shape{w:World}{B n:Nat}{v:Value}{f g:Nat->Int}(h:Br w B v n f g):∃a c,v= .slice a n c:=by
 rcases h.2 with⟨rfl,rfl⟩|⟨gb,cap,cur,rfl,_⟩
 ·exact⟨_,_,rfl⟩
 ·exact⟨_,_,rfl⟩
theorem QN{w:World}{b off m:Nat}{f g:Nat->Int}(h:∀i,i<m->w.cell? ⟨b,off+i*2,none⟩=some (.int .i64 (f i))/\w.cell? ⟨b,off+i*2+1,none⟩=some (.int .i64 (g i))):
 ∀j u,(Cj f g m)[j]? =some u->w.cell? ((⟨b,off,none⟩:Addr).add j)=some u:=by
 intro j u hu;have hj:j<m*2:=by
  apply Nat.lt_of_not_le;intro hle;rw[List.getElem?_eq_none (by rw[Cf];exact hle)]at hu;cases hu
 rw[CN _ _ _ _ hj]at hu;cases hu;obtain⟨h1,h2⟩:=h (j/2) (by omega);rw[add_plain];rcases Nat.mod_two_eq_zero_or_one j with e|e
 ·have e2:off+j/2*2=off+j:=by omega
  rw[e2]at h1;rw[h1];simp[AO,e]
 ·have e2:off+j/2*2+1=off+j:=by omega
  rw[e2]at h2;rw[h2];simp[AO,e]
theorem FD(w:World)(ty B:Nat)(v:Value)(n:Nat)(f g:Nat->Int)(hown:Br w B v n f g)(a:Addr)(m c:Nat)(f' g':Nat->Int)
 (hnews:∀j u,(Cj f' g' m)[j]? =some u->w.cell? (a.add j)=some u)(hm:n+m<=4194304)(hB:B<=w.heap.size):
 ∃a' c' w',(Builtin.append_ #[40,40] ty #[v,.slice (some a) m c]).run prog w= .ok (.slice a' (n+m) c') w'/\Br w' B (.slice a' (n+m) c') (n+m) (glue n f f') (glue n g g')/\w.grownBy w' v.ownBlock/\
  ((Value.slice a' (n+m) c').ownBlock=v.ownBlock∨(Value.slice a' (n+m) c').ownBlock=some w):=by
 obtain⟨i0,hi,hz0,hz1,hz2⟩:=info_parts Tryz.info145;obtain⟨v',w',hr,h2,h3,_,h5⟩:=run_append_own_at (P:=prog) w B 40 ty 145 i0 _ 2 16 underlying40 hi hz0 hz1 hz2 rfl (by omega) v n (Cj f g n) hown a m c (Cj f' g' m) (Cf _ _ _) hnews (Jz _ _ _) (by unfold maxLen;omega) (by omega) hB;rw[Hz]at h2;obtain⟨a',c',rfl⟩:=Br.shape h2;exact⟨a',c',w',hr,h2,h3,h5⟩
theorem Lx(w:World)(ty B:Nat)(v:Value)(n:Nat)(f g:Nat->Int)(hown:Br w B v n f g)(ad:Option Addr)(m c:Nat)(f' g':Nat->Int)(hc:An w ad m f' g')
 (hm:n+m<=4194304)(hB:B<=w.heap.size):
 ∃a' c' w',(Builtin.append_ #[40,40] ty #[v,.slice ad m c]).run prog w= .ok (.slice a' (n+m) c') w'/\Br w' B (.slice a' (n+m) c') (n+m) (glue n f f') (glue n g g')/\w.grownBy w' v.ownBlock/\
  ((Value.slice a' (n+m) c').ownBlock=v.ownBlock∨(Value.slice a' (n+m) c').ownBlock=some w):=by
 by_cases h0:0<m
 ·obtain⟨b,off,rfl,_,hcc⟩:=hc h0;exact FD w ty B v n f g hown _ m c f' g' (QN hcc) hm hB
 ·obtain rfl:m=0:=by omega
  cases ad with
  |some a=>exact FD w ty B v n f g hown a 0 c f' g' (fun j u hu=>by simp[Cj]at hu) hm hB
  |none=>
   obtain⟨i0,hi,hz0,hz1,hz2⟩:=info_parts Tryz.info145;have e:=Hz f g f' g' n 0;have e0:Cj f' g' 0=[]:=rfl;rw[e0,List.append_nil]at e;have hown':=hown;unfold Br at hown' ⊢;rw[e]at hown';obtain⟨a',c',rfl⟩:=Br.shape hown;refine⟨a',c',w,?_,hown',⟨rfl,rfl,rfl,Nat.le_refl _,fun _ _ _=>rfl⟩,.inl rfl⟩;obtain⟨_,hx⟩:=hown;rcases hx with⟨hv,rfl⟩|⟨gb,cap,cur,hv,_,_,hnc,_⟩
   ·simp only[Value.slice.injEq]at hv;obtain⟨rfl,_,rfl⟩:=hv;simp[Builtin.append_,run_underlying underlying40,sizeOf,typeInfo,hi,Builtin.lenOf,Builtin.firstCells]
   ·simp only[Value.slice.injEq]at hv;obtain⟨rfl,_,rfl⟩:=hv;simp[Builtin.append_,run_underlying underlying40,sizeOf,typeInfo,hi,Builtin.lenOf,Builtin.firstCells,hnc,storeCells]
theorem MF{o:Oper}{a:Act}{K:Act->World->Prop}{Q:Exit->Act->World->Prop}(w:World)(s x:Operand)
 (ho:o.op= .call {callee:= .builtin .append,args:=#[s,x],argTypes:=#[40,40]})
 (B:Nat)(v:Value)(n:Nat)(f g:Nat->Int)(hs:a.eval s=v)(hown:Br w B v n f g)(ad:Option Addr)(m c:Nat)(f' g':Nat->Int)(hx:a.eval x= .slice ad m c)(hc:An w ad m f' g')
 (hm:n+m<=4194304)(hB:B<=w.heap.size)
 (h:∀a' c' w',Br w' B (.slice a' (n+m) c') (n+m) (glue n f f') (glue n g g')->w.grownBy w' v.ownBlock->((Value.slice a' (n+m) c').ownBlock=v.ownBlock∨(Value.slice a' (n+m) c').ownBlock=some w)->K (a.put o.dst (.slice a' (n+m) c')) w'):o.wp prog a w K Q:=by
 obtain⟨a',c',w',hr,h2,h3,h4⟩:=Lx w o.type B v n f g hown ad m c f' g' hc hm hB;unfold Oper.wp execOp;simp only[ho,resolve,invoke,builtin,Sem.run_bind,Sem.run_pure,Result.andThen_ok,List.map_toArray,List.map_cons,List.map_nil,hs,hx,hr];exact h a' c' w' h2 h3 h4
theorem Hi{ops:Array Oper}{o:Oper}{a:Act}{K:Act->World->Prop}{Q:Exit->Act->World->Prop}{E:Prop}(w:World)(hgd:o.guard=none)(s x:Operand)
 (ho:o.op= .call {callee:= .builtin .append,args:=#[s,x],argTypes:=#[40,40]})
 (B:Nat)(v:Value)(n:Nat)(f g:Nat->Int)(hs:a.eval s=v)(hown:Br w B v n f g)(ad:Option Addr)(m c:Nat)(f' g':Nat->Int)(hx:a.eval x= .slice ad m c)(hc:An w ad m f' g')
 (hm:n+m<=4194304)(hB:B<=w.heap.size)
 (h:∀a' c' w',Br w' B (.slice a' (n+m) c') (n+m) (glue n f f') (glue n g g')->w.grownBy w' v.ownBlock->((Value.slice a' (n+m) c').ownBlock=v.ownBlock∨(Value.slice a' (n+m) c').ownBlock=some w)->K (a.put o.dst (.slice a' (n+m) c')) w'):
 if Region.wanted o (yielded ops a.tmps)=true then Oper.wp prog o a w K Q else E:=by
 have hw:Region.wanted o (yielded ops a.tmps)=true:=by simp[Region.wanted,hgd]
 rw[if_pos hw];exact MF w s x ho B v n f g hs hown ad m c f' g' hx hc hm hB h
theorem Ph(f f':Nat->Int):glue 0 f f'=f':=by funext i;simp[glue]
theorem Gy{ops:Array Oper}{o:Oper}{a:Act}{K:Act->World->Prop}{Q:Exit->Act->World->Prop}{E:Prop}(w:World)(hgd:o.guard=none)(s x:Operand)
 (ho:o.op= .call {callee:= .builtin .append,args:=#[s,x],argTypes:=#[40,40]})
 (B:Nat)(v:Value)(f g:Nat->Int)(hs:a.eval s=v)(hown:Br w B v 0 f g)(ad:Option Addr)(m c:Nat)(f' g':Nat->Int)(hx:a.eval x= .slice ad m c)(hc:An w ad m f' g')
 (hm:m<=4194304)(hB:B<=w.heap.size)
 (h:∀a' c' w',Br w' B (.slice a' m c') m f' g'->w.grownBy w' v.ownBlock->((Value.slice a' m c').ownBlock=v.ownBlock∨(Value.slice a' m c').ownBlock=some w)->K (a.put o.dst (.slice a' m c')) w'):
 if Region.wanted o (yielded ops a.tmps)=true then Oper.wp prog o a w K Q else E:=by
 refine Hi w hgd s x ho B v 0 f g hs hown ad m c f' g' hx hc (by omega) hB ?_;rw[Ph,Ph,Nat.zero_add];exact h
open Go
open Go.WideShapes (add_plain)
def Bj(w:World)(ad:Option Addr)(n:Nat)(cs:List Value):Prop:=
 0<n->∃b off,ad=some ⟨b,off,none⟩/\b<w.heap.size/\∀j u,cs[j]? =some u->w.cell? ⟨b,off+j,none⟩=some u
theorem Bj.below{w w':World}{ad:Option Addr}{n:Nat}{cs:List Value}(h:Bj w ad n cs)(hb:Below w w w'):Bj w' ad n cs:=fun hn=>by
 obtain⟨b,off,e,hlt,hc⟩:=h hn;exact⟨b,off,e,Nat.lt_of_lt_of_le hlt hb.size,fun j u hu=>(hb.cell (p:=⟨b,off+j,none⟩) hlt).trans (hc j u hu)⟩
theorem Bj.own{w:World}{B e size n c:Nat}{a:Option Addr}{cs:List Value}(h:w.ownsRow B e size (.slice a n c) n cs):Bj w a n cs:=fun hn=>by
 obtain⟨gb,cap,hv,_,hlt⟩:=World.ownsRow.form h hn;simp only[Value.slice.injEq]at hv;obtain⟨rfl,_,_⟩:=hv;have hc:=World.ownsRow.cells h (g:=gb) rfl;refine⟨gb,0,rfl,hlt,fun j u hu=>?_⟩;have t:=hc j u hu;rw[add_plain]at t;exact t
theorem Cw{w:World}{B e size n:Nat}{v:Value}{cs:List Value}(h:w.ownsRow B e size v n cs):∃a c,v= .slice a n c:=by
 rcases h.2 with⟨rfl,rfl⟩|⟨gb,cap,cur,rfl,_⟩
 ·exact⟨_,_,rfl⟩
 ·exact⟨_,_,rfl⟩
section
variable {t e size bytes:Nat}{z:Value} (hT:prog.underlying t=some (.slice e)) (hI:(prog.info? e).map (fun i=>(i.zero,i.size,i.bytes))=some (some z,size,bytes)) (hzs:z.cells.size=size) (hsz:0<size)
include hT hI hzs hsz
theorem Gr(w:World)(ty B:Nat)(v:Value)(n:Nat)(cs:List Value)(hown:w.ownsRow B e size v n cs)(ad:Option Addr)(m c:Nat)(cs':List Value)(hl:cs'.length=m*size)(hc:Bj w ad m cs')(h1:∀u∈cs',u.oneCell'=true)
 (hm:n+m<=4194304)(hby:(n+m)*bytes<=140737488355328)(hB:B<=w.heap.size):
 ∃a' c' w',(Builtin.append_ #[t,t] ty #[v,.slice ad m c]).run prog w= .ok (.slice a' (n+m) c') w'/\w'.ownsRow B e size (.slice a' (n+m) c') (n+m) (cs++cs')/\w.grownBy w' v.ownBlock/\
  ((Value.slice a' (n+m) c').ownBlock=v.ownBlock∨(Value.slice a' (n+m) c').ownBlock=some w):=by
 obtain⟨i0,hi,hz0,hz1,hz2⟩:=info_parts hI;have some':∀a:Addr,(∀j u,cs'[j]? =some u->w.cell? (a.add j)=some u)->∃a' c' w',(Builtin.append_ #[t,t] ty #[v,.slice (some a) m c]).run prog w= .ok (.slice a' (n+m) c') w'/\w'.ownsRow B e size (.slice a' (n+m) c') (n+m) (cs++cs')/\w.grownBy w' v.ownBlock/\
  ((Value.slice a' (n+m) c').ownBlock=v.ownBlock∨(Value.slice a' (n+m) c').ownBlock=some w):=fun a hnews=>by
  obtain⟨v',w',hr,h2,h3,_,h5⟩:=run_append_own_at (P:=prog) w B t ty e i0 _ size bytes hT hi hz0 hz1 hz2 hzs hsz v n cs hown a m c cs' hl hnews h1 (by unfold maxLen;omega) hby hB;obtain⟨a',c',rfl⟩:=Cw h2;exact⟨a',c',w',hr,h2,h3,h5⟩
 by_cases h0:0<m
 ·obtain⟨b,off,rfl,_,hcc⟩:=hc h0;exact some' _ (fun j u hu=>by rw[add_plain];exact hcc j u hu)
 ·obtain rfl:m=0:=by omega
  have e0:cs'=[]:=List.eq_nil_of_length_eq_zero (by omega);subst e0;cases ad with
  |some a=>exact some' a (fun j u hu=>by simp at hu)
  |none=>
   obtain⟨a',c',rfl⟩:=Cw hown;rw[List.append_nil];refine⟨a',c',w,?_,hown,⟨rfl,rfl,rfl,Nat.le_refl _,fun _ _ _=>rfl⟩,.inl rfl⟩;obtain⟨_,hx⟩:=hown;rcases hx with⟨hv,rfl⟩|⟨gb,cap,cur,hv,_,_,hnc,_⟩
   ·simp only[Value.slice.injEq]at hv;obtain⟨rfl,_,rfl⟩:=hv;simp[Builtin.append_,run_underlying hT,sizeOf,typeInfo,hi,Builtin.lenOf,Builtin.firstCells]
   ·simp only[Value.slice.injEq]at hv;obtain⟨rfl,_,rfl⟩:=hv;simp[Builtin.append_,run_underlying hT,sizeOf,typeInfo,hi,Builtin.lenOf,Builtin.firstCells,hnc,storeCells]
theorem CR{o:Oper}{a:Act}{K:Act->World->Prop}{Q:Exit->Act->World->Prop}(w:World)(s x:Operand)
 (ho:o.op= .call {callee:= .builtin .append,args:=#[s,x],argTypes:=#[t,t]})
 (B:Nat)(v:Value)(n:Nat)(cs:List Value)(hs:a.eval s=v)(hown:w.ownsRow B e size v n cs)(ad:Option Addr)(m c:Nat)(cs':List Value)(hx:a.eval x= .slice ad m c)(hl:cs'.length=m*size)(hc:Bj w ad m cs')(h1:∀u∈cs',u.oneCell'=true)
 (hm:n+m<=4194304)(hby:(n+m)*bytes<=140737488355328)(hB:B<=w.heap.size)
 (h:∀a' c' w',w'.ownsRow B e size (.slice a' (n+m) c') (n+m) (cs++cs')->w.grownBy w' v.ownBlock->((Value.slice a' (n+m) c').ownBlock=v.ownBlock∨(Value.slice a' (n+m) c').ownBlock=some w)->K (a.put o.dst (.slice a' (n+m) c')) w'):o.wp prog a w K Q:=by
 obtain⟨a',c',w',hr,h2,h3,h4⟩:=Gr hT hI hzs hsz w o.type B v n cs hown ad m c cs' hl hc h1 hm hby hB;unfold Oper.wp execOp;simp only[ho,resolve,invoke,builtin,Sem.run_bind,Sem.run_pure,Result.andThen_ok,List.map_toArray,List.map_cons,List.map_nil,hs,hx,hr];exact h a' c' w' h2 h3 h4
end
def Ax(w:World)(B:Nat)(v:Value)(l:List Int):Prop:=w.ownsRow B 2 1 v l.length (l.map (Value.int .i64))
def Dd(w:World)(ad:Option Addr)(l:List Int):Prop:=Bj w ad l.length (l.map (Value.int .i64))
theorem Dd.below{w w':World}{ad:Option Addr}{l:List Int}(h:Dd w ad l)(hb:Below w w w'):Dd w' ad l:=Bj.below h hb
theorem Ax.lies{w:World}{B c:Nat}{a:Option Addr}{l:List Int}(h:Ax w B (.slice a l.length c) l):Dd w a l:=Bj.own h
theorem Ax.nil(w:World)(B:Nat):Ax w B (.slice none 0 0) []:=World.ownsRow_nil _ _ _ _
theorem Ax.made(w:World)(B:Nat)(hb:B<=w.heap.size):Ax (w.alloc (.cells #[] 2)) B (.slice (some ⟨w,0,none⟩) 0 0) []:=World.ownsRow_made w #[] 0 hb (Nat.zero_le _) rfl
theorem Ax.alloc{w:World}{B:Nat}{v:Value}{l:List Int}(h:Ax w B v l)(o:Obj):Ax (w.alloc o) B v l:=World.ownsRow.alloc h o
def AL(l:List Int)(i:Nat):Int:=l.getD i 0
theorem Dd.ints{w:World}{ad:Option Addr}{l:List Int}(h:Dd w ad l):AJ w ad l.length (AL l):=fun hn=>by
 obtain⟨b,off,e,hlt,hc⟩:=h hn;exact⟨b,off,e,hlt,fun i hi=>hc i _ (by simp[AL,hi])⟩
theorem AJ.intL{w:World}{ad:Option Addr}{n:Nat}{h:Nat->Int}(hc:AJ w ad n h):Dd w ad ((List.range n).map h):=fun hn=>by
 have hn':0<n:=by simpa using hn
 obtain⟨b,off,e,hlt,hcc⟩:=hc hn';refine⟨b,off,e,hlt,fun j u hu=>?_⟩;by_cases hj:j<n
 ·simp[hj]at hu;rw[<-hu];exact hcc j hj
 ·simp[hj]at hu
theorem Do{ops:Array Oper}{rest:List Oper}{o:Oper}{a:Act}{Q:Exit->Act->World->Prop}(w:World)(hgd:o.guard=none)(s x:Operand)
 (ho:o.op= .call {callee:= .builtin .append,args:=#[s,x],argTypes:=#[76,76]})
 (B:Nat)(v:Value)(l:List Int)(hs:a.eval s=v)(hown:Ax w B v l)(ad:Option Addr)(m c:Nat)(l':List Int)(hx:a.eval x= .slice ad m c)(hm':l'.length=m)(hc:Dd w ad l')
 (hm:l.length+m<=4194304)(hB:B<=w.heap.size)
 (h:∀a' c' w',Ax w' B (.slice a' (l++l').length c') (l++l')->w.grownBy w' v.ownBlock->((Value.slice a' (l++l').length c').ownBlock=v.ownBlock∨(Value.slice a' (l++l').length c').ownBlock=some w)->wpList prog ops Q rest (a.put o.dst (.slice a' (l++l').length c')) w'):wpList prog ops Q (o::rest) a w:=by
 subst hm';refine wpList_plain hgd fun _ hK=>CR underlying76 Tryz.info2 rfl (by omega) w s x ho B v l.length _ hs hown ad l'.length c _ hx (by simp) hc (fun u hu=>by obtain⟨y,_,rfl⟩:=List.mem_map.1 hu;rfl) hm (by omega) hB fun a' c' w' h2 h3 h4=>hK _ _ ?_;rw[<-List.map_append,<-List.length_append]at h2;rw[<-List.length_append]at h4 ⊢;exact h a' c' w' h2 h3 h4
theorem AV{ops:Array Oper}{rest:List Oper}{o:Oper}{a:Act}{Q:Exit->Act->World->Prop}(w:World)(hgd:o.guard=none)(s x:Operand)
 (ho:o.op= .call {callee:= .builtin .append,args:=#[s,x],argTypes:=#[76,76]})
 (B:Nat)(v:Value)(l:List Int)(hs:a.eval s=v)(hown:Ax w B v l)(ad:Option Addr)(m c:Nat)(l':List Int)(hx:a.eval x= .slice ad m c)(hm':l'.length=m)(hc:Dd w ad l')(R:List Int)(hR:R=l++l')
 (hm:R.length<=4194304)(hB:B<=w.heap.size)
 (h:∀a' c' w',Ax w' B (.slice a' R.length c') R->w.grownBy w' v.ownBlock->((Value.slice a' R.length c').ownBlock=v.ownBlock∨(Value.slice a' R.length c').ownBlock=some w)->wpList prog ops Q rest (a.put o.dst (.slice a' R.length c')) w'):wpList prog ops Q (o::rest) a w:=by
 subst hR;exact Do w hgd s x ho B v l hs hown ad m c l' hx hm' hc (by rw[List.length_append]at hm;omega) hB h
theorem Dd.take{w:World}{b off:Nat}{l:List Int}(h:Dd w (some ⟨b,off,none⟩) l)(k:Nat):Dd w (some ⟨b,off,none⟩) (l.take k):=fun hn=>by
 have hl:0<l.length:=by simp at hn;omega
 obtain⟨b',off',e,hlt,hc⟩:=h hl;cases e;refine⟨b,off,rfl,hlt,fun j u hu=>hc j u ?_⟩;rw[List.map_take,List.getElem?_take]at hu;split at hu
 ·exact hu
 ·cases hu
theorem Dd.drop{w:World}{b off:Nat}{l:List Int}(h:Dd w (some ⟨b,off,none⟩) l)(k:Nat):Dd w (some ⟨b,off+k,none⟩) (l.drop k):=fun hn=>by
 have hl:0<l.length:=by simp at hn;omega
 obtain⟨b',off',e,hlt,hc⟩:=h hl;cases e;refine⟨b,off+k,rfl,hlt,fun j u hu=>?_⟩;rw[List.map_drop,List.getElem?_drop]at hu;have:=hc (k+j) u hu;rw[Nat.add_assoc];exact this
theorem Dd.one{w:World}(x:Int):Dd (w.alloc (.cells #[.int .i64 x] 2)) (some ⟨w,0,none⟩) [x]:=fun _=>
 ⟨w,0,rfl,by simp,fun j u hu=>by
   cases j with
   |zero=>simp at hu;subst hu;simp
   |succ j=>simp at hu⟩
theorem Dd.none(w:World)(ad:Option Addr):Dd w ad []:=fun h=>by simp at h
end Go.Proofs.YtmikapeeflcbfaaGreatDoor
