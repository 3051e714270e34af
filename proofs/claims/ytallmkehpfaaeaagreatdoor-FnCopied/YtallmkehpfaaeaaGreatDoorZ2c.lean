import Derived.Test.YtallmkehpfaaeaaGreatDoorZ1c
import Derived.Test.YtallmkehpfaaeaaGreatDoorZ0c
import Derived.Maps.Own
import Derived.Maps.OwnSet
set_option maxRecDepth 100000
set_option maxHeartbeats 4000000
namespace Go.Proofs.YtallmkehpfaaeaaGreatDoor
open Go.RowKit Go.Deep Go.Proofs.Tryz
def C9(t:Ae):Bool:=Dg t.id t.made t.b1 t.c1.n t.c1.f t.c1.g t.b2 t.c2.n t.c2.f t.c2.g t.own.n t.own.h
theorem Tt(t:Ae)(w:World)(ht:t.at w):
 Calls prog 58 #[t.val] w fun e w'=>e= .returned (.bool (C9 t))/\Below w w w':=Hn _ _ _ _ _ _ _ _ _ _ _ _ _ _ _ _ _ _ w ht.1.1 ht.2.1.1 ht.2.2.1 ht.1.2 ht.2.1.2 ht.2.2.2
def DF(T:Nat->Ae)(i:Nat):Bool:=C9 (T i)&&(i==0||decide ((T (i-1)).id<(T i).id))
def Bj(n:Nat)(T:Nat->Ae):Bool:=decide (1<=n)&&decide (n<=9)&&(List.range n).all (DF T)
def Fi(O:Nat->Ab)(i:Nat):Bool:=Ck (O i)&&(if i=0 then decide (0<(O 0).id)else decide ((O (i-1)).id<(O i).id))
def Ey(t:Ab):Bool:=t.id==1&&t.kind==3&&t.up==0
def BQ(n:Nat)(O:Nat->Ab):Bool:=decide (1<=n)&&decide (n<=271)&&(List.range n).all (Fi O)&&Ey (O 0)
theorem Gg{n k:Nat}{p:Nat->Bool}(hk:k<n)(e:p k=false):(List.range n).all p=false:=by
 rw[List.all_eq_false];exact⟨k,List.mem_range.2 hk,by simp[e]⟩
theorem DI{n:Nat}{p:Nat->Bool}(e:∀i,i<n->p i=true):(List.range n).all p=true:=by
 rw[List.all_eq_true];intro i hi;exact e i (List.mem_range.1 hi)
theorem Fy{n:Nat}{p:Nat->Bool}(e:(List.range n).all p=true):∀i,i<n->p i=true:=fun i hi=>List.all_eq_true.1 e i (List.mem_range.2 hi)
theorem Jl{t:Ae}(h:C9 t=true):1<=t.id/\t.id<=9:=by
 unfold C9 Dg at h;simp only[Bool.and_eq_true]at h;exact Dz.1 (by simp_all)
theorem VS{T:Nat->Ae}{k:Nat}(h:C9 (T k)=true)(e:(T k).id<=lastOf (fun i=>(T i).id) k):DF T k=false:=by
 have h1:=Jl h;by_cases e0:k=0
 ·subst e0;simp[lastOf]at e;omega
 ·simp[lastOf,e0]at e;have:decide ((T (k-1)).id<(T k).id)=false:=by simp;omega
  simp[DF,e0,this]
theorem Ua{T:Nat->Ae}{k:Nat}(h:C9 (T k)=true)(e:¬(T k).id<=lastOf (fun i=>(T i).id) k):DF T k=true:=by
 by_cases e0:k=0
 ·subst e0;simp[DF,h]
 ·simp[lastOf,e0]at e;simp[DF,h,e]
theorem VH{O:Nat->Ab}{k:Nat}(e:(O k).id<=lastOf (fun i=>(O i).id) k):Fi O k=false:=by
 by_cases e0:k=0
 ·subst e0;simp[lastOf]at e;simp[Fi];intro _;omega
 ·simp[lastOf,e0]at e;have:decide ((O (k-1)).id<(O k).id)=false:=by simp;omega
  simp[Fi,e0,this]
theorem Tz{O:Nat->Ab}{k:Nat}(h:Ck (O k)=true)(e:¬(O k).id<=lastOf (fun i=>(O i).id) k):Fi O k=true:=by
 by_cases e0:k=0
 ·subst e0;simp[lastOf]at e;simp[Fi,h,e]
 ·simp[lastOf,e0]at e;simp[Fi,h,e,e0]
def Ae.blk(t:Ae):Obj:= .cells #[t.id,t.b1,t.c1.val,t.b2,t.c2.val,t.own.val,t.made] 42
theorem Ah.c0{W:World}{P t:Nat}{cs:Array Value}(h:Ah W P (.cells cs t))(i:Nat){v:Value}(hv:cs[i]? =some v):W.cell? ⟨P,i,none⟩=some v:=by
 unfold Ah at h;simp[World.cell?,h,hv]
theorem M8(a:Option Addr)(n cap:Nat)(T:Nat->Ae)(w:World)(hn:n<=maxLen)(hT:Hf w a n T):
 Calls prog 40 #[.slice a n cap] w fun e w'=>e= .returned (.bool (Bj n T))/\Below w w w':=by
 unfold maxLen at hn;have HT:=hid hT;clear hT;by_cases h1:n<1
 ·have h1':(n:Int)<1:=by omega
  go_enter func40,ntmps40
  go_wp2;go_ret;have:n=0:=by omega
  exact⟨Af (by simp[Bj,this]),Below.refl _ _⟩
 have h1':¬(n:Int)<1:=by omega
 by_cases h9:9<n
 ·have h9':(9:Int)<(n:Int):=by omega
  go_enter func40,ntmps40
  go_wp2;go_ret;have:decide (n<=9)=false:=by simp;omega
  exact⟨Af (by simp[Bj,this]),Below.refl _ _⟩
 have h9':¬(9:Int)<(n:Int):=by omega
 go_enter func40,ntmps40
 go_wp2;go_loopw [3,16] (fun l i wr=>∃k:Nat,k<=n/\i= .int .i64 k/\l= .int .i64 (lastOf (fun i=>(T i).id) k)/\Hid (∀j,j<k->DF T j=true)/\Below w w wr) (fun _ i _=>n-(intOf i).toNat)
 case atStart=>exact⟨0,Nat.zero_le _,rfl,rfl,hid (fun j hj=>by omega),Below.refl _ _⟩
 case round=>
  obtain⟨k,hk,rfl,rfl,HA,hB⟩:=hrel;by_cases hlt:k<n
  ·obtain⟨b,off,rfl,hlt0,hcc⟩:=HT.out.below hB (by omega);obtain⟨⟨q0,q1,q2,q3,q4,q5,q6⟩,ht⟩:=hcc k hlt;have i1:(k:Int)<(n:Int):=(by omega);have b1:Below wr wr (wr.alloc (T k).blk):=(Below.refl _ wr).alloc (Nat.le_refl _) _;have SZ:=hid (Tt (T k) _ (ht.below b1));have A0:=Ah.new wr (T k).blk;have B0:=Ag hB b1;simp only[As.val,AM.val,Ae.blk,Ae.val]at q2 q4 q5 SZ A0 b1 B0;clear hcc ht;go_wp2_with fail
   refine SZ.out.mono ?_;rintro e w2 ⟨rfl,hb2⟩;have A2:=A0.below hb2;have x0:=A2.c0 0 rfl;have B2:=Ag B0 hb2;clear q0 q1 q2 q3 q4 q5 q6 SZ hb2 A0 B0 b1 hlt0;cases t1:C9 (T k)with
   |false=>
    go_wp2;go_ret;exact⟨Af (by rw[Bj,Gg hlt (by simp[DF,t1])];simp),B2⟩
   |true=>
    by_cases t2:(T k).id<=lastOf (fun i=>(T i).id) k
    ·go_wp2;go_ret;exact⟨Af (by rw[Bj,Gg hlt (VS t1 t2)];simp),B2⟩
    ·have HA2:Hid (∀j,j<k+1->DF T j=true):=hid (fun j hj=>by
      by_cases e:j=k
      ·subst e;exact Ua t1 t2
      ·exact HA.out j (by omega))
     go_wp2;exact⟨⟨k+1,by omega,by go_num,by rw[Gv],HA2,B2⟩,by simp[intOf];omega⟩
  ·go_wp2;go_ret;have e:k=n:=(by omega);subst e;refine⟨Af ?_,hB⟩;rw[Bj,DI HA.out];simp;omega
theorem Ni(a:Option Addr)(n cap:Nat)(O:Nat->Ab)(w:World)(hn:n<=maxLen)(hT:Gz w a n O):
 Calls prog 41 #[.slice a n cap] w fun e w'=>e= .returned (.bool (BQ n O))/\Below w w w':=by
 unfold maxLen at hn;have HT:=hid hT;clear hT;by_cases h1:n<1
 ·have h1':(n:Int)<1:=by omega
  go_enter func41,ntmps41
  go_wp2;go_ret;have:n=0:=by omega
  exact⟨Af (by simp[BQ,this]),Below.refl _ _⟩
 have h1':¬(n:Int)<1:=by omega
 by_cases h9:271<n
 ·have h9':(271:Int)<(n:Int):=by omega
  go_enter func41,ntmps41
  go_wp2;go_ret;have:decide (n<=271)=false:=by simp;omega
  exact⟨Af (by simp[BQ,this]),Below.refl _ _⟩
 have h9':¬(271:Int)<(n:Int):=by omega
 go_enter func41,ntmps41
 go_wp2;go_loopw [3,17] (fun l i wr=>∃k:Nat,k<=n/\i= .int .i64 k/\l= .int .i64 (lastOf (fun i=>(O i).id) k)/\Hid (∀j,j<k->Fi O j=true)/\Below w w wr) (fun _ i _=>n-(intOf i).toNat)
 case atStart=>exact⟨0,Nat.zero_le _,rfl,rfl,hid (fun j hj=>by omega),Below.refl _ _⟩
 case round=>
  obtain⟨k,hk,rfl,rfl,HA,hB⟩:=hrel;by_cases hlt:k<n
  ·obtain⟨b,off,rfl,hlt0,hcc⟩:=HT.out.below hB (by omega);obtain⟨⟨q0,q1,q2,q3,q4,q5,q6,q7,q8,q9⟩,ht⟩:=hcc k hlt;have i1:(k:Int)<(n:Int):=(by omega);have b1:Below wr wr (wr.alloc (.cells #[.int .i64 (O k).id,.int .i64 (O k).kind,.int .i64 (O k).up,.int .i64 (O k).b1,(O k).c1.val,.string (O k).data,(O k).items.val,(O k).own.val,.int .i64 (O k).b2,(O k).c2.val] 47)):=(Below.refl _ wr).alloc (Nat.le_refl _) _;have SZ:=hid (OZ (O k) _ (ht.below b1));have A0:=Ah.new wr (.cells #[.int .i64 (O k).id,.int .i64 (O k).kind,.int .i64 (O k).up,.int .i64 (O k).b1,(O k).c1.val,.string (O k).data,(O k).items.val,(O k).own.val,.int .i64 (O k).b2,(O k).c2.val] 47);have B0:=Ag hB b1;simp only[As.val,AM.val,Ar.val,Ab.val]at q4 q6 q7 q9 SZ A0 b1 B0;clear hcc ht;go_wp2_with fail
   refine SZ.out.mono ?_;rintro e w2 ⟨rfl,hb2⟩;have A2:=A0.below hb2;have x0:=A2.c0 0 rfl;have B2:=Ag B0 hb2;clear q0 q1 q2 q3 q4 q5 q6 q7 q8 q9 SZ hb2 A0 B0 b1 hlt0;cases t1:Ck (O k)with
   |false=>
    go_wp2;go_ret;exact⟨Af (by rw[BQ,Gg hlt (by simp[Fi,t1])];simp),B2⟩
   |true=>
    by_cases t2:(O k).id<=lastOf (fun i=>(O i).id) k
    ·go_wp2;go_ret;exact⟨Af (by rw[BQ,Gg hlt (VH t2)];simp),B2⟩
    ·have HA2:Hid (∀j,j<k+1->Fi O j=true):=hid (fun j hj=>by
      by_cases e:j=k
      ·subst e;exact Tz t1 t2
      ·exact HA.out j (by omega))
     go_wp2;exact⟨⟨k+1,by omega,by go_num,by rw[Gv],HA2,B2⟩,by simp[intOf];omega⟩
  ·have e:k=n:=(by omega);subst e;obtain⟨b,off,rfl,hlt0,hcc⟩:=HT.out.below hB (by omega);obtain⟨⟨q0,q1,q2,q3,q4,q5,q6,q7,q8,q9⟩,ht⟩:=hcc 0 (by omega);simp only[Nat.zero_mul,Nat.add_zero]at q0 q1 q2 q3 q4 q5 q6 q7 q8 q9;have i0:(0:Int)<(k:Int):=(by omega);have OK:Hid (BQ k O=Ey (O 0)):=hid (by
    have d1:decide (1<=k)=true:=(by simp;omega);have d2:decide (k<=271)=true:=(by simp;omega);rw[BQ,DI HA.out,d1,d2];rfl)
   simp only[As.val,AM.val,Ar.val]at q4 q6 q7 q9;clear hcc ht HA;go_wp2;all_goals
    go_ret;refine⟨Af ?_,hB.alloc hB.size _⟩;rw[OK.out];clear q0 q1 q2 q3 q4 q5 q6 q7 q8 q9;simp_all[Ey]
open Go.Maps
theorem GB:Keyed prog 2:=int_keyed underlying2
theorem Xr(w:World):(zeroValue 2).run prog w= .ok (.int .i64 0) w:=by kernel_rfl
def look(f g:Nat->Int):Nat->Int->Option Int
 |0,_=>none
 |k+1,x=>if f k=x then some (g k)else look f g k x
def Be(w:World)(b n:Nat)(m:Int->Option Int):Prop:=
 ∃D:DataW Unit,w.ownsMap prog 2 (plainElem prog 2) b n D/\IsMap D/\
  ∀x,Maps.has D (.int .i64 x)=(m x).isSome/\∀v,m x=some v->D.atKey (.int .i64 x) (.lit (.int .i64 0))= .lit (.int .i64 v)
theorem Be.made(w:World):Be (w.alloc (.map #[] 0)) w 0 (fun _=>none):=
 ⟨.map [],World.ownsMap_made _ _ _ _,isMap_empty,fun x=>⟨rfl,fun v h=>by cases h⟩⟩
theorem Be.of_block{w w':World}{b n:Nat}{m:Int->Option Int}(h:Be w b n m)(e:w'.heap[b]? =w.heap[b]?):Be w' b n m:=by
 obtain⟨D,⟨es,clock,hb,F,hs,hD⟩,r⟩:=h;exact⟨D,⟨es,clock,e.trans hb,F,hs,hD⟩,r⟩
theorem Be.setCell{w:World}{b n:Nat}{m:Int->Option Int}(h:Be w b n m){a:Addr}(ha:b≠a.block)(v:Value):Be (w.setCell a v) b n m:=h.of_block (blk_setCell_other _ _ _ _ ha)
theorem Be.lt{w:World}{b n:Nat}{m:Int->Option Int}(h:Be w b n m):b<w.heap.size:=by
 obtain⟨D,h1,_⟩:=h;exact h1.lt
theorem Be.alloc{w:World}{b n:Nat}{m:Int->Option Int}(h:Be w b n m)(o:Obj):Be (w.alloc o) b n m:=by
 obtain⟨D,h1,h2,h3⟩:=h;exact⟨D,h1.alloc o,h2,h3⟩
def setAt(m:Int->Option Int)(k v:Int)(x:Int):Option Int:=if k=x then some v else m x
theorem Be.put{D:DataW Unit}{m:Int->Option Int}{k v:Int}(h2:IsMap D)
 (h3:∀x,Maps.has D (.int .i64 x)=(m x).isSome/\∀v,m x=some v->D.atKey (.int .i64 x) (.lit (.int .i64 0))= .lit (.int .i64 v)):
 IsMap (D.put (.int .i64 k) (.lit (.int .i64 v)))/\
 ∀x,Maps.has (D.put (.int .i64 k) (.lit (.int .i64 v))) (.int .i64 x)=(setAt m k v x).isSome/\∀u,setAt m k v x=some u->(D.put (.int .i64 k) (.lit (.int .i64 v))).atKey (.int .i64 x) (.lit (.int .i64 0))= .lit (.int .i64 u):=by
 refine⟨h2.put _ _,fun x=>?_⟩;by_cases e:k=x
 ·subst e;refine⟨?_,fun u hu=>?_⟩
  ·rw[has_put_same h2 (by trivial)];simp[setAt]
  ·simp[setAt]at hu;subst hu;exact atKey_put_same h2 (by trivial) _ _
 ·have hne:(Lit.int .i64 x)≠(Lit.int .i64 k):=by simp;exact fun h=>e h.symm
  refine⟨?_,fun u hu=>?_⟩
  ·rw[has_put_other hne];simp[setAt,e];exact(h3 x).1
  ·simp[setAt,e]at hu;rw[atKey_put_other hne];exact(h3 x).2 u hu
theorem LV(f g:Nat->Int)(k:Nat):setAt (look f g k) (f k) (g k)=look f g (k+1):=by
 funext x;rfl
theorem BI{w w':World}{b:Nat}(hg:w.grownBy w' (some b)){k o:Nat}(hk:k<w.heap.size)(hne:k≠b):w'.cell? ⟨k,o,none⟩=w.cell? ⟨k,o,none⟩:=
 World.cell?_of_block (w:=w) (hg.block k hk (fun e=>hne (by simpa using e)))
theorem FQ{w w':World}{b:Nat}(hg:w.grownBy w' (some b)){k o:Nat}(hk:k<w.heap.size)(hne:k≠b):w'.frozen? ⟨k,o,none⟩=w.frozen? ⟨k,o,none⟩:=
 World.frozen?_of_block (w:=w) (hg.block k hk (fun e=>hne (by simpa using e)))
theorem Be.below{w w':World}{b n:Nat}{m:Int->Option Int}(h:Be w b n m)(hb:Below w w w'):Be w' b n m:=h.of_block (hb.block b h.lt)
theorem GQ{x:Int}(h0: -9223372036854775808<=x)(h1:x<=9223372036854775807):(Lit.int .i64 x).wf=true:=WalkArith.wf_i64 ⟨h0,h1⟩
theorem Ny{x:Int}(h:(Lit.int .i64 x).wf=true): -9223372036854775808<=x/\x<=9223372036854775807:=by
 simp only[Lit.wf,Bool.and_eq_true,decide_eq_true_eq]at h;have e1:IntKind.i64.min= -9223372036854775808:=rfl;have e2:IntKind.i64.max=9223372036854775807:=rfl;omega
theorem Be.look{w:World}{b n:Nat}{m:Int->Option Int}{x:Int}(h:Be w b n m)(hx:(Lit.int .i64 x).wf=true):
 (Instr.lookup 138 (.map (some b)) (.int .i64 x) false).run prog w= .ok (.int .i64 ((m x).getD 0)) w:=by
 obtain⟨D,hown,hD,hall⟩:=h;obtain⟨c,hrun,hat,_⟩:=hown.lookup_int GB underlying138 underlying2 (Xr _) (keyOf_int_mk underlying2 hx);obtain⟨h1,h2⟩:=hall x;rw[hrun];cases hm:m x with
 |none=>
  have:Maps.has D (.int .i64 x)=false:=by rw[h1,hm];rfl
  rw[atKey_of_not_has this]at hat;simp at hat;simp[<-hat]
 |some v=>
  have:=(h2 v hm).symm.trans hat;simp at this;simp[this]
def madeOf(n:Nat)(T:Nat->Ae)(x:Int):Int:=(look (fun i=>(T i).id) (fun i=>(T i).made) n x).getD 0
def Eu(n:Nat)(T:Nat->Ae)(id:Int):Bool:=decide (1<=id%1000)&&decide (id%1000<=madeOf n T (id/1000))
def FN(n:Nat)(T:Nat->Ae)(m:Nat)(O:Nat->Ab):Bool:=(List.range (m-1)).all (fun i=>Eu n T (O (i+1)).id)
theorem Db{n:Nat}{T:Nat->Ae}(h:Bj n T=true):1<=n/\n<=9/\∀i,i<n->DF T i=true:=by
 simp only[Bj,Bool.and_eq_true,decide_eq_true_eq]at h;exact⟨h.1.1,h.1.2,Fy h.2⟩
theorem MA{T:Nat->Ae}{i:Nat}(h:DF T i=true):C9 (T i)=true:=by
 simp only[DF,Bool.and_eq_true]at h;exact h.1
theorem IV{t:Ae}(h:C9 t=true):0<=t.made/\t.made<=30:=by
 unfold C9 Dg at h;simp only[Bool.and_eq_true]at h;exact Dz.1 (by simp_all)
theorem Cc{n:Nat}{O:Nat->Ab}(h:BQ n O=true):1<=n/\n<=271/\(∀i,i<n->Fi O i=true)/\Ey (O 0)=true:=by
 simp only[BQ,Bool.and_eq_true,decide_eq_true_eq]at h;exact⟨h.1.1.1,h.1.1.2,Fy h.1.2,h.2⟩
theorem Bq{n:Nat}{O:Nat->Ab}(h:BQ n O=true):C0 (fun i=>(O i).id) n:=by
 obtain⟨_,_,ha,_⟩:=Cc h;intro i j hij;induction j with
 |zero=>omega
 |succ j ih=>
  intro hj;have h1:=ha (j+1) hj;simp[Fi]at h1;by_cases e:i=j
  ·subst e;exact h1.2
  ·have:=ih (by omega) (by omega);simp only at this ⊢;omega
theorem Ct{n:Nat}{O:Nat->Ab}(h:BQ n O=true):(O 0).id=1/\(O 0).kind=3/\(O 0).up=0:=by
 obtain⟨_,_,_,hr⟩:=Cc h;simp only[Ey,Bool.and_eq_true,beq_iff_eq]at hr;exact⟨hr.1.1,hr.1.2,hr.2⟩
theorem En{n:Nat}{O:Nat->Ab}(h:BQ n O=true):∀i,i<n->1<=(O i).id:=by
 intro i hi;have hr:=(Ct h).1;by_cases e:i=0
 ·subst e;omega
 ·have:=Bq h 0 i (by omega) hi;simp only at this;omega
theorem MS(k:Av)(w:World)(hk:k.at w)(hcap:k.on<=k.ok)(h1:Bj k.tn k.T=true)(h2:BQ k.on k.O=true)(hw:∀i,i<k.on->(Lit.int .i64 (k.O i).id).wf=true):
 Calls prog 42 #[k.val] w fun e w'=>e= .returned (.bool (FN k.tn k.T k.on k.O))/\Below w w w':=by
 have hmm:=@run_makeMap prog;obtain⟨ta,tn,tk,T,oa,on,ok,O⟩:=k;obtain⟨_,_,hT,hO⟩:=hk;unfold Av.val;simp only at h1 h2 hw hT hO hcap ⊢;obtain⟨tn1,tn9,tall⟩:=Db h1;obtain⟨on1,on2,_,_⟩:=Cc h2;have HT:=hid hT;have HO:=hid hO;obtain⟨tb,toff,rfl,_,_⟩:=hT (by omega);obtain⟨ob,ooff,rfl,_,_⟩:=hO (by omega);have HP:=hid (En h2);have HW:=hid hw;have HA:=hid tall;clear h1 h2 hw tall hT hO;have n2:Na #[.slice (some ⟨tb,toff,none⟩) tn tk,.slice (some ⟨ob,ooff,none⟩) on ok]:=⟨⟩;have hb0:=(Below.refl _ w).alloc (Nat.le_refl _) (.cells n2 27);have A0:=Ah.new w (.cells n2 27);have hb1:=Ag hb0 ((Below.refl _ _).alloc (Nat.le_refl _) (.map #[] 0));have A1:=A0.alloc (.map #[] 0);have M0:=Be.made (w.alloc (.cells n2 27));go_enter func42,ntmps42
 go_wp2;generalize hW:((w.alloc (Obj.cells n2 27)).alloc (Obj.map #[] 0))=W at *;have M1:Be W (w.heap.size+1) 0 (look (fun i=>(T i).id) (fun i=>(T i).made) 0):=by simpa[look]using M0
 clear M0 hb0 A0 hmm hW;go_loopw [13] (fun i wr=>∃j:Nat,j<=tn/\i= .int .i64 j/\Be wr (w.heap.size+1) j (look (fun i=>(T i).id) (fun i=>(T i).made) j)/\Ah wr w (.cells n2 27)/\Below w w wr) (fun i _=>tn-(intOf i).toNat)
 case atStart=>exact⟨0,Nat.zero_le _,rfl,M1,A1,hb1⟩
 case round=>
  obtain⟨j,hj,rfl,HM,A,hB⟩:=hrel;clear M1 A1 hb1;by_cases hlt:j<tn
  ·obtain⟨_,_,ea,hlt0,hcc⟩:=HT.out.below hB (by omega);cases ea;obtain⟨⟨q0,q1,q2,q3,q4,q5,q6⟩,ht⟩:=hcc j hlt;have i1:(j:Int)<(tn:Int):=(by omega);have t1:=MA (HA j hlt);have hkey:keyOf prog 2 (.int .i64 (T j).id)=some (.int .i64 (T j).id):=keyOf_int_mk underlying2 (GQ (by have:=Jl t1;omega) (by have:=Jl t1;omega));have W2:Hid ((Lit.int .i64 (T j).made).wf=true):=GQ (by have:=IV t1;omega) (by have:=IV t1;omega);have hlm:=HM.lt;obtain⟨D,hown,hD,hm⟩:=HM;simp only[As.val,AM.val]at q2 q4 q5;clear hcc ht t1;go_wp2_with(at_mapUpdate;refine wpList_mapUpdate_own _ rfl _ _ _ 138 rfl 2 2 GB underlying138 _ (w.heap.size+1) j _ rfl (hown.alloc _) (by unfold maxLen;omega) _ _ _ rfl rfl hkey _ [] (plainElem_int underlying2 W2) ?_;intro w1 hown1 hgrow1)
   have hm1:=Be.put (k:=(T j).id) (v:=(T j).made) hD hm;rw[LV (fun i=>(T i).id) (fun i=>(T i).made) j]at hm1;have A3:=A.alloc (.cells #[.int .i64 (T j).id,.int .i64 (T j).b1,.slice (T j).c1.a (T j).c1.n (T j).c1.k,.int .i64 (T j).b2,.slice (T j).c2.a (T j).c2.n (T j).c2.k,.slice (T j).own.a (T j).own.n (T j).own.k,.int .i64 (T j).made] 42);refine⟨⟨j+1,by omega,by go_num,⟨_,hown1,hm1.1,hm1.2⟩,?_,?_⟩,by simp[intOf];omega⟩
   ·exact(hgrow1.block _ A3.lt (by simp)).trans A3
   ·exact(hB.alloc hB.size _).grown hgrow1 (by simp;omega) (fun i hi=>by cases hi;omega)
  ·have e:j=tn:=(by omega);subst e;have i1:¬(j:Int)<(j:Int):=(by omega);obtain⟨y0,y1⟩:=A.two;have c1:(on:Int)<=(ok:Int):=(by omega);have c2:(1:Int)<=(on:Int):=(by omega);clear HT HA y0;by_cases hok:ok=1
   ·obtain rfl:on=1:=by omega
    subst hok;go_wp2;go_loopw [27] (fun i wr'=>i= .int .i64 0/\Below w w wr') (fun i _=>0)
    case atStart=>exact⟨rfl,hB⟩
    case round=>
     obtain⟨rfl,hB'⟩:=hrel;go_wp2;go_ret;exact⟨Af (by simp[FN]),hB'⟩
   ·go_wp2;go_loopw [27] (fun i wr'=>∃q:Nat,q<=on-1/\i= .int .i64 q/\Hid (∀p,p<q->Eu j T (O (p+1)).id=true)/\Be wr' (w.heap.size+1) j (look (fun i=>(T i).id) (fun i=>(T i).made) j)/\Below w w wr') (fun i _=>on-1-(intOf i).toNat)
    case atStart=>exact⟨0,Nat.zero_le _,rfl,hid (fun p hp=>by omega),HM,hB⟩
    case round=>
    obtain⟨q,hq,rfl,HN,HM',hB'⟩:=hrel;clear y1 A hB HM;by_cases hlt2:q<on-1
    ·obtain⟨_,_,ea,hlt0,hcc⟩:=HO.out.below hB' (by omega);cases ea;obtain⟨⟨q0,q1,q2,q3,q4,q5,q6,q7,q8,q9⟩,ht⟩:=hcc (q+1) (by omega);have ei:ooff+(q+1)*10=ooff+10+q*10:=(by omega);rw[ei]at q0 q1 q2 q3 q4 q5 q6 q7 q8 q9;have i2:(q:Int)<((on-1:Nat):Int):=(by omega);have hp:=HP.out (q+1) (by omega);simp only[As.val,AM.val,Ar.val]at q4 q6 q7 q9;have hww:=HW.out (q+1) (by omega);have hwb:=Ny hww;have ed:wrap64 ((O (q+1)).id.tdiv 1000)=(O (q+1)).id/1000:=by
      rw[Int.tdiv_eq_ediv_of_nonneg (by omega)];unfold wrap64;omega
     have n1:No (.cells #[.int .i64 (O (q+1)).id,.int .i64 (O (q+1)).kind,.int .i64 (O (q+1)).up,.int .i64 (O (q+1)).b1,.slice (O (q+1)).c1.a (O (q+1)).c1.n (O (q+1)).c1.k,.string (O (q+1)).data,.slice (O (q+1)).items.a (O (q+1)).items.n (O (q+1)).items.k,.slice (O (q+1)).own.a (O (q+1)).own.n (O (q+1)).own.k,.int .i64 (O (q+1)).b2,.slice (O (q+1)).c2.a (O (q+1)).c2.n (O (q+1)).c2.k] 47):=⟨⟩;have LK:=(HM'.alloc n1).look (x:=(O (q+1)).id/1000) (GQ (by omega) (by omega));have em:((look (fun i=>(T i).id) (fun i=>(T i).made) j ((O (q+1)).id/1000)).getD 0)=madeOf j T ((O (q+1)).id/1000):=rfl;rw[em]at LK;have HMa:=HM'.alloc n1;clear hcc ht ei em hww hwb;go_wp2
     ·go_ret;have t1:madeOf j T ((O (q+1)).id/1000)<(O (q+1)).id%1000:=(by omega);refine⟨Af ?_,hB'.alloc hB'.size _⟩;rw[FN,Gg hlt2];have:decide ((O (q+1)).id%1000<=madeOf j T ((O (q+1)).id/1000))=false:=(by simp;omega);simp[Eu,this]
     ·have t1:(O (q+1)).id%1000<=madeOf j T ((O (q+1)).id/1000):=(by omega);have t0:1<=(O (q+1)).id%1000:=(by assumption);refine⟨⟨q+1,by omega,by go_num,hid (fun p hp=>?_),HMa,hB'.alloc hB'.size _⟩,by simp[intOf];omega⟩;by_cases e:p=q
      ·subst e;simp[Eu,t0,t1]
      ·exact HN.out p (by omega)
     ·go_ret;have t1:(O (q+1)).id%1000<1:=(by assumption);refine⟨Af ?_,hB'.alloc hB'.size _⟩;rw[FN,Gg hlt2];have:decide (1<=(O (q+1)).id%1000)=false:=(by simp;omega);simp[Eu,this]
    ·have e:q=on-1:=(by omega);subst e;go_wp2;go_ret;exact⟨Af (by rw[FN,DI HN.out]),hB'⟩
open Go
def FK:Option Nat->Int
 |none=> -1
 |some j=>j
theorem Ic{ids:Nat->Int}{n k:Nat}{x:Int}(hk:k<n)(he:ids k=x)(h:∀j,j<k->ids j≠x):Bb ids n x=some k:=by
 unfold Bb;rw[List.find?_range_eq_some];exact⟨by simpa using he,List.mem_range.2 hk,fun j hj=>by simpa using h j hj⟩
theorem Jm{ids:Nat->Int}{n:Nat}{x:Int}(h:∀j,j<n->ids j≠x):Bb ids n x=none:=by
 unfold Bb;rw[List.find?_eq_none];intro j hj;simpa using h j (List.mem_range.1 hj)
theorem IP(k:Av)(x:Int)(w:World)(hk:k.at w):
 Calls prog 79 #[k.val,.int .i64 x] w fun e w'=>e= .returned (.int .i64 (FK (Bb (fun i=>(k.O i).id) k.on x)))/\Below w w w':=by
 have n1:No (.cells #[.slice k.ta k.tn k.tk,.slice k.oa k.on k.ok] 27):=⟨⟩;have hb0:=(Below.refl _ w).alloc (Nat.le_refl _) n1;have A0:=Ah.new w n1;have HT:=hid (hk.below hb0);have hn:=hk.2.1;unfold maxLen at hn;unfold Av.val;obtain⟨x0,x1⟩:=A0.two;clear hk A0;go_enter func79,ntmps79
 go_wp2;generalize w.alloc n1=W at *;go_loop [5] (fun i=>∃q:Nat,q<=k.on/\i= .int .i64 q/\Hid (∀j,j<q->(k.O j).id≠x)) (fun i=>k.on-(intOf i).toNat)
 case atStart=>exact⟨0,Nat.zero_le _,rfl,hid (fun j hj=>by omega)⟩
 case round=>
  obtain⟨q,hq,rfl,HA⟩:=hrel;by_cases hlt:q<k.on
  ·obtain⟨b,off,ea,_,hcc⟩:=HT.out.2.2.2 (by omega);have q0:=(hcc q hlt).1.c0;have i1:(q:Int)<(k.on:Int):=(by omega);rw[ea]at x1;clear hcc ea;by_cases e:(k.O q).id=x
   ·have HF:=hid (Ic (ids:=fun i=>(k.O i).id) hlt e HA);have e':((k.O q).id==x)=true:=(by simpa using e);clear e HA;go_wp2;go_ret;exact⟨El (by rw[HF.out];rfl),hb0⟩
   ·have e':((k.O q).id==x)=false:=(by simpa using e);have HA2:Hid (∀j,j<q+1->(k.O j).id≠x):=hid (fun j hj=>by
     by_cases ej:j=q
     ·subst ej;exact e
     ·exact HA.out j (by omega))
    clear e HA;go_wp2;exact⟨⟨q+1,by omega,by go_num,HA2⟩,by simp[intOf];omega⟩
  ·have i1:¬(q:Int)<(k.on:Int):=(by omega);have HF:=hid (Jm (ids:=fun i=>(k.O i).id) (n:=k.on) (x:=x) (fun j hj=>HA j (by omega)));clear HA;go_wp2;go_ret;exact⟨El (by rw[HF.out];rfl),hb0⟩
theorem Hd(k:Av)(x:Int)(w:World)(hk:k.at w):
 Calls prog 66 #[k.val,.int .i64 x] w fun e w'=>e= .returned (.int .i64 (FK (Bb (fun i=>(k.T i).id) k.tn x)))/\Below w w w':=by
 have n1:No (.cells #[.slice k.ta k.tn k.tk,.slice k.oa k.on k.ok] 27):=⟨⟩;have hb0:=(Below.refl _ w).alloc (Nat.le_refl _) n1;have A0:=Ah.new w n1;have HT:=hid (hk.below hb0);have hn:=hk.1;unfold maxLen at hn;unfold Av.val;obtain⟨x0,x1⟩:=A0.two;clear hk A0;go_enter func66,ntmps66
 go_wp2;generalize w.alloc n1=W at *;go_loop [5] (fun i=>∃q:Nat,q<=k.tn/\i= .int .i64 q/\Hid (∀j,j<q->(k.T j).id≠x)) (fun i=>k.tn-(intOf i).toNat)
 case atStart=>exact⟨0,Nat.zero_le _,rfl,hid (fun j hj=>by omega)⟩
 case round=>
  obtain⟨q,hq,rfl,HA⟩:=hrel;by_cases hlt:q<k.tn
  ·obtain⟨b,off,ea,_,hcc⟩:=HT.out.2.2.1 (by omega);have q0:=(hcc q hlt).1.c0;have i1:(q:Int)<(k.tn:Int):=(by omega);rw[ea]at x0;clear hcc ea;by_cases e:(k.T q).id=x
   ·have HF:=hid (Ic (ids:=fun i=>(k.T i).id) hlt e HA);have e':((k.T q).id==x)=true:=(by simpa using e);clear e HA;go_wp2;go_ret;exact⟨El (by rw[HF.out];rfl),hb0⟩
   ·have e':((k.T q).id==x)=false:=(by simpa using e);have HA2:Hid (∀j,j<q+1->(k.T j).id≠x):=hid (fun j hj=>by
     by_cases ej:j=q
     ·subst ej;exact e
     ·exact HA.out j (by omega))
    clear e HA;go_wp2;exact⟨⟨q+1,by omega,by go_num,HA2⟩,by simp[intOf];omega⟩
  ·have i1:¬(q:Int)<(k.tn:Int):=(by omega);have HF:=hid (Jm (ids:=fun i=>(k.T i).id) (n:=k.tn) (x:=x) (fun j hj=>HA j (by omega)));clear HA;go_wp2;go_ret;exact⟨El (by rw[HF.out];rfl),hb0⟩
def EJ(n:Nat)(O:Nat->Ab)(x:Int):Bool:=match Bb (fun i=>(O i).id) n x with
 |some u=>(O u).kind==3
 |none=>false
def Hh(n:Nat)(O:Nat->Ab):Bool:=(List.range (n-1)).all (fun i=>EJ n O (O (i+1)).up)
def Bo(k:Av):Bool:=Bj k.tn k.T&&BQ k.on k.O&&FN k.tn k.T k.on k.O&&Hh k.on k.O&&Eh (fun i=>(k.O i).id) (fun i=>(k.O i).up) k.on
def Gb(k:Av)(i:Nat):Bool:=Ck (k.O i)&&(if i=0 then Ey (k.O 0)else decide ((k.O (i-1)).id<(k.O i).id)&&Eu k.tn k.T (k.O i).id&&EJ k.on k.O (k.O i).up)
theorem Ql{k:Av}(h1:1<=k.on)(h2:k.on<=271):(BQ k.on k.O&&FN k.tn k.T k.on k.O&&Hh k.on k.O)=(List.range k.on).all (Gb k):=by
 rw[Bool.eq_iff_iff];simp only[Bool.and_eq_true];constructor
 ·rintro⟨⟨ho,hn⟩,hu⟩;obtain⟨_,_,ha,hr⟩:=Cc ho;refine DI fun i hi=>?_;have hai:=ha i hi;simp only[Fi,Bool.and_eq_true]at hai;simp only[Gb,hai.1,Bool.true_and];by_cases e:i=0
  ·rw[if_pos e];exact hr
  ·rw[if_neg e]at hai ⊢;have e1:i-1+1=i:=(by omega);have h3:=Fy hn (i-1) (by omega);have h4:=Fy hu (i-1) (by omega);simp only[e1]at h3 h4;simp only[hai.2,h3,h4,Bool.and_true]
 ·intro h;have ha:=Fy h;have h0:=ha 0 (by omega);simp only[Gb,if_true,Bool.and_eq_true]at h0;refine⟨⟨?_,?_⟩,?_⟩
  ·have:(List.range k.on).all (Fi k.O)=true:=DI fun i hi=>by
    have hi':=ha i hi;simp only[Gb,Bool.and_eq_true]at hi';simp only[Fi,hi'.1,Bool.true_and];by_cases e:i=0
    ·rw[if_pos e];have:=h0.2;simp only[Ey,Bool.and_eq_true,beq_iff_eq]at this;simp[this.1.1]
    ·rw[if_neg e]at hi' ⊢;simp only[Bool.and_eq_true]at hi';exact hi'.2.1.1
   simp only[BQ,this,h0.2,Bool.and_true,Bool.and_eq_true,decide_eq_true_eq];exact⟨h1,h2⟩
  ·refine DI fun i hi=>?_;have hi':=ha (i+1) (by omega);simp only[Gb,Bool.and_eq_true]at hi';rw[if_neg (by omega)]at hi';simp only[Bool.and_eq_true]at hi';exact hi'.2.1.2
  ·refine DI fun i hi=>?_;have hi':=ha (i+1) (by omega);simp only[Gb,Bool.and_eq_true]at hi';rw[if_neg (by omega)]at hi';simp only[Bool.and_eq_true]at hi';exact hi'.2.2
theorem Hq{k:Av}(ht:Bj k.tn k.T=true)(h1:1<=k.on)(h2:k.on<=271):Bo k=((List.range k.on).all (Gb k)&&Eh (fun i=>(k.O i).id) (fun i=>(k.O i).up) k.on):=by
 rw[Bo,ht,<-Ql h1 h2];simp[Bool.and_assoc]
theorem F6{k:Av}(ht:Bj k.tn k.T=false):Bo k=false:=by simp[Bo,ht]
theorem G5{k:Av}(h:¬(1<=k.on/\k.on<=271)):Bo k=false:=by
 have:BQ k.on k.O=false:=by
  cases e:BQ k.on k.O with
  |false=>rfl
  |true=>obtain⟨a,b,_⟩:=Cc e;exact absurd ⟨a,b⟩ h
 simp[Bo,this]
theorem Ir{n:Nat}{T:Nat->Ae}(h:Bj n T=true):C0 (fun i=>(T i).id) n:=by
 obtain⟨_,_,ha⟩:=Db h;intro i j hij;induction j with
 |zero=>omega
 |succ j ih=>
  intro hj;have h1:=ha (j+1) hj;simp[DF]at h1;by_cases e:i=j
  ·subst e;exact h1.2
  ·have:=ih (by omega) (by omega);simp only at this ⊢;omega
theorem Of{ids g:Nat->Int}{n:Nat}(h:C0 ids n)(x:Int):look ids g n x=(Bb ids n x).map g:=by
 induction n with
 |zero=>rfl
 |succ n ih=>
  have ih':=ih (fun i j hij hj=>h i j hij (by omega));rw[look];split
  ·rename_i e;rw[<-e,Dl h (Nat.lt_succ_self n)];rfl
  ·rename_i e;rw[ih'];congr 1;cases e1:Bb ids n x with
   |none=>
    symm;refine Jm fun j hj=>?_;by_cases ej:j=n
    ·subst ej;exact e
    ·exact Hc e1 j (by omega)
   |some j=>
    obtain⟨j1,j2⟩:=Az e1;symm;rw[<-j2];exact Dl h (by omega)
theorem II{n:Nat}{T:Nat->Ae}(h:Bj n T=true){id:Int}{t:Nat}(e:Bb (fun i=>(T i).id) n (id/1000)=some t):Eu n T id=Dt (id%1000) 1 (T t).made:=by
 have:madeOf n T (id/1000)=(T t).made:=by
  unfold madeOf;rw[Of (Ir h),e];rfl
 simp[Eu,this,Dt]
theorem Mw{n:Nat}{T:Nat->Ae}(h:Bj n T=true){id:Int}(e:Bb (fun i=>(T i).id) n (id/1000)=none):Eu n T id=false:=by
 have:madeOf n T (id/1000)=0:=by
  unfold madeOf;rw[Of (Ir h),e];rfl
 simp[Eu,this];intro _;omega
theorem Ye{k:Av}{i:Nat}(h:∀j,j<i->Gb k j=true)(h0:0<i)(hl:(k.O (i-1)).id<(k.O i).id):1<=(k.O i).id:=by
 have:∀j,j<i->1<=(k.O j).id:=by
  intro j;induction j with
  |zero=>
   intro hj;have:=h 0 hj;simp only[Gb,if_true,Bool.and_eq_true,Ey,beq_iff_eq]at this;omega
  |succ j ih=>
   intro hj;have h1:=ih (by omega);have:=h (j+1) hj;simp only[Gb,Bool.and_eq_true]at this;rw[if_neg (by omega)]at this;simp only[Bool.and_eq_true,decide_eq_true_eq,Nat.add_sub_cancel]at this;omega
 have:=this (i-1) (by omega);omega
def As.same(c d:As):Prop:=d.n=c.n/\d.f=c.f/\d.g=c.g
def AM.same(c d:AM):Prop:=d.n=c.n/\d.h=c.h
def Ae.same(t u:Ae):Prop:=u.id=t.id/\u.b1=t.b1/\t.c1.same u.c1/\u.b2=t.b2/\t.c2.same u.c2/\t.own.same u.own/\u.made=t.made
def As.row(w:World)(c:As):Prop:=∃b,c.a=some ⟨b,0,none⟩/\w.rowIs b 95 (c.n*2) (Cy c.f c.g)
def AM.row(w:World)(c:AM):Prop:=∃b,c.a=some ⟨b,0,none⟩/\w.rowIs b 2 c.n (fun i=> .int .i64 (c.h i))
def Ae.row(w:World)(t:Ae):Prop:=t.c1.row w/\t.c2.row w/\t.own.row w
theorem Ke{w w':World}{b ty N:Nat}{G:Nat->Value}(h:w.rowIs b ty N G)(hb:Below w w w'):w'.rowIs b ty N G:=h.of_block (hb.block b h.lt)
theorem Ew{w:World}{b b' t t' N N':Nat}{G G':Nat->Value}(h:w.rowIs b t N G)(h':w.rowIs b' t' N' G')(ht:t≠t'):b≠b':=fun e=>by
 subst e;obtain⟨c,e1,_⟩:=h;obtain⟨c',e2,_⟩:=h';rw[e1]at e2;simp only[Option.some.injEq,Obj.cells.injEq]at e2;exact ht e2.2.1
theorem As.row.below{w w':World}{c:As}(h:c.row w)(hb:Below w w w'):c.row w':=by
 obtain⟨b,e,hr⟩:=h;exact⟨b,e,Ke hr hb⟩
theorem AM.row.below{w w':World}{c:AM}(h:c.row w)(hb:Below w w w'):c.row w':=by
 obtain⟨b,e,hr⟩:=h;exact⟨b,e,Ke hr hb⟩
theorem Ae.row.below{w w':World}{t:Ae}(h:t.row w)(hb:Below w w w'):t.row w':=⟨As.row.below h.1 hb,As.row.below h.2.1 hb,AM.row.below h.2.2 hb⟩
theorem Ae.row.put{w:World}{t:Ae}{P ty N:Nat}{G:Nat->Value}(h:t.row w)(hP:w.rowIs P ty N G)(h1:ty≠95)(h2:ty≠2)(i:Nat)(v:Value):t.row (w.setCell ⟨P,i,none⟩ v):=by
 obtain⟨⟨b1,e1,r1⟩,⟨b2,e2,r2⟩,⟨b3,e3,r3⟩⟩:=h;exact⟨⟨b1,e1,r1.setOther (Ew r1 hP h1.symm) v⟩,⟨b2,e2,r2.setOther (Ew r2 hP h1.symm) v⟩,⟨b3,e3,r3.setOther (Ew r3 hP h2.symm) v⟩⟩
theorem Ae.row.at{w:World}{t:Ae}(h:t.row w)(hs:t.small):t.at w:=by
 obtain⟨⟨b1,e1,r1⟩,⟨b2,e2,r2⟩,⟨b3,e3,r3⟩⟩:=h;refine⟨⟨by unfold maxLen;have:=hs.1;omega,?_⟩,⟨by unfold maxLen;have:=hs.2.1;omega,?_⟩,⟨by unfold maxLen;have:=hs.2.2;omega,?_⟩⟩
 ·rw[e1];exact AI.row r1
 ·rw[e2];exact AI.row r2
 ·rw[e3];exact AX.row r3
structure G7(G:Nat->Value)(o:Nat)(t:Ae):Prop where
 g0:G o= .int .i64 t.id
 g1:G (o+1)= .int .i64 t.b1
 g2:G (o+2)=t.c1.val
 g3:G (o+3)= .int .i64 t.b2
 g4:G (o+4)=t.c2.val
 g5:G (o+5)=t.own.val
 g6:G (o+6)= .int .i64 t.made
theorem G7.cells{w:World}{b ty N:Nat}{G:Nat->Value}{o:Nat}{t:Ae}(hr:w.rowIs b ty N G)(h:G7 G o t)(ho:o+7<=N):FH w b o t:=
 ⟨(hr.cell (by omega)).trans (congrArg some h.g0),(hr.cell (by omega)).trans (congrArg some h.g1),(hr.cell (by omega)).trans (congrArg some h.g2),(hr.cell (by omega)).trans (congrArg some h.g3),(hr.cell (by omega)).trans (congrArg some h.g4),(hr.cell (by omega)).trans (congrArg some h.g5),(hr.cell (by omega)).trans (congrArg some h.g6)⟩
theorem Tryz.info42:(prog.info? 42).map (fun i=>(i.zero,i.size,i.bytes))=some (some (.agg #[.int .i64 0,.int .i64 0,.slice none 0 0,.int .i64 0,.slice none 0 0,.slice none 0 0,.int .i64 0]),7,104):=by kernel_rfl
theorem Tryz.info9:(prog.info? 9).map (fun i=>(i.zero,i.size,i.bytes))=some (some (.string ⟨#[]⟩),1,16):=by kernel_rfl
def Ar.row(w:World)(c:Ar):Prop:=∃b,c.a=some ⟨b,0,none⟩/\w.rowIs b 9 c.n (fun i=> .string (c.f i))
theorem Ah.setAt{W:World}{P t i:Nat}{cs:Array Value}(h:Ah W P (.cells cs t))(v:Value):Ah (W.setCell ⟨P,i,none⟩ v) P (.cells (cs.setIfInBounds i v) t):=by
 unfold Ah at *;simp[World.setCell,Array.getElem?_modify,h]
theorem Ah.warm{W:World}{P t:Nat}{cs:Array Value}(h:Ah W P (.cells cs t))(i:Nat):W.frozen? ⟨P,i,none⟩=false:=by
 unfold Ah at h;simp[World.frozen?,h]
theorem Ah.other{W:World}{P Q i:Nat}{o:Obj}(h:Ah W P o)(hne:Q≠P)(v:Value):Ah (W.setCell ⟨Q,i,none⟩ v) P o:=by
 unfold Ah at *;simp[World.setCell,Array.getElem?_modify,h,hne]
theorem Ah.all10{W:World}{P t:Nat}{z0 z1 z2 z3 z4 z5 z6 z7 z8 z9:Value}(h:Ah W P (.cells #[z0,z1,z2,z3,z4,z5,z6,z7,z8,z9] t))(x0 x1 x2 x3 x4 x5 x6 x7 x8 x9:Value):
 Ah ((((((((((W.setCell ⟨P,0,none⟩ x0).setCell ⟨P,1,none⟩ x1).setCell ⟨P,2,none⟩ x2).setCell ⟨P,3,none⟩ x3).setCell ⟨P,4,none⟩ x4).setCell ⟨P,5,none⟩ x5).setCell ⟨P,6,none⟩ x6).setCell ⟨P,7,none⟩ x7).setCell ⟨P,8,none⟩ x8).setCell ⟨P,9,none⟩ x9) P (.cells #[x0,x1,x2,x3,x4,x5,x6,x7,x8,x9] t):=by
 have h0:Ah _ P (.cells #[x0,z1,z2,z3,z4,z5,z6,z7,z8,z9] t):=h.setAt (i:=0) x0;have h1:Ah _ P (.cells #[x0,x1,z2,z3,z4,z5,z6,z7,z8,z9] t):=h0.setAt (i:=1) x1;have h2:Ah _ P (.cells #[x0,x1,x2,z3,z4,z5,z6,z7,z8,z9] t):=h1.setAt (i:=2) x2;have h3:Ah _ P (.cells #[x0,x1,x2,x3,z4,z5,z6,z7,z8,z9] t):=h2.setAt (i:=3) x3;have h4:Ah _ P (.cells #[x0,x1,x2,x3,x4,z5,z6,z7,z8,z9] t):=h3.setAt (i:=4) x4;have h5:Ah _ P (.cells #[x0,x1,x2,x3,x4,x5,z6,z7,z8,z9] t):=h4.setAt (i:=5) x5;have h6:Ah _ P (.cells #[x0,x1,x2,x3,x4,x5,x6,z7,z8,z9] t):=h5.setAt (i:=6) x6;have h7:Ah _ P (.cells #[x0,x1,x2,x3,x4,x5,x6,x7,z8,z9] t):=h6.setAt (i:=7) x7;have h8:Ah _ P (.cells #[x0,x1,x2,x3,x4,x5,x6,x7,x8,z9] t):=h7.setAt (i:=8) x8;exact h8.setAt (i:=9) x9

def Ar.same(c d:Ar):Prop:=d.n=c.n/\d.f=c.f
def Ab.same(t u:Ab):Prop:=u.id=t.id/\u.kind=t.kind/\u.up=t.up/\u.b1=t.b1/\t.c1.same u.c1/\u.data=t.data/\t.items.same u.items/\t.own.same u.own/\u.b2=t.b2/\t.c2.same u.c2
def Ab.row(w:World)(t:Ab):Prop:=t.c1.row w/\t.items.row w/\t.own.row w/\t.c2.row w
theorem Ar.row.below{w w':World}{c:Ar}(h:c.row w)(hb:Below w w w'):c.row w':=by
 obtain⟨b,e,hr⟩:=h;exact⟨b,e,Ke hr hb⟩
theorem Ab.row.below{w w':World}{t:Ab}(h:t.row w)(hb:Below w w w'):t.row w':=⟨As.row.below h.1 hb,Ar.row.below h.2.1 hb,AM.row.below h.2.2.1 hb,As.row.below h.2.2.2 hb⟩
theorem Ab.row.put{w:World}{t:Ab}{P ty N:Nat}{G:Nat->Value}(h:t.row w)(hP:w.rowIs P ty N G)(h1:ty≠95)(h2:ty≠2)(h3:ty≠9)(i:Nat)(v:Value):t.row (w.setCell ⟨P,i,none⟩ v):=by
 obtain⟨⟨b1,e1,r1⟩,⟨b2,e2,r2⟩,⟨b3,e3,r3⟩,⟨b4,e4,r4⟩⟩:=h;exact⟨⟨b1,e1,r1.setOther (Ew r1 hP h1.symm) v⟩,⟨b2,e2,r2.setOther (Ew r2 hP h3.symm) v⟩,⟨b3,e3,r3.setOther (Ew r3 hP h2.symm) v⟩,⟨b4,e4,r4.setOther (Ew r4 hP h1.symm) v⟩⟩
structure YQ(G:Nat->Value)(o:Nat)(u:Ab):Prop where
 g0:G (o)= .int .i64 u.id
 g1:G (o+1)= .int .i64 u.kind
 g2:G (o+2)= .int .i64 u.up
 g3:G (o+3)= .int .i64 u.b1
 g4:G (o+4)=u.c1.val
 g5:G (o+5)= .string u.data
 g6:G (o+6)=u.items.val
 g7:G (o+7)=u.own.val
 g8:G (o+8)= .int .i64 u.b2
 g9:G (o+9)=u.c2.val
theorem Tryz.info47:(prog.info? 47).map (fun i=>(i.zero,i.size,i.bytes))=some (some (.agg #[.int .i64 0,.int .i64 0,.int .i64 0,.int .i64 0,.slice none 0 0,.string ⟨#[]⟩,.slice none 0 0,.slice none 0 0,.int .i64 0,.slice none 0 0]),10,152):=by kernel_rfl
def Gy(w:World)(a:Option Addr)(n:Nat)(T:Nat->Ae):Prop:=∃b G,a=some ⟨b,0,none⟩/\w.rowIs b 42 (n*7) G/\∀j,j<n->G7 G (j*7) (T j)/\(T j).row w
def GH(w:World)(a:Option Addr)(n:Nat)(T:Nat->Ab):Prop:=∃b G,a=some ⟨b,0,none⟩/\w.rowIs b 47 (n*10) G/\∀j,j<n->YQ G (j*10) (T j)/\(T j).row w
theorem Gy.below{w w':World}{a:Option Addr}{n:Nat}{T:Nat->Ae}(h:Gy w a n T)(hb:Below w w w'):Gy w' a n T:=by
 obtain⟨b,G,e,hr,hj⟩:=h;exact⟨b,G,e,Ke hr hb,fun j h=>⟨(hj j h).1,Ae.row.below (hj j h).2 hb⟩⟩
theorem GH.below{w w':World}{a:Option Addr}{n:Nat}{T:Nat->Ab}(h:GH w a n T)(hb:Below w w w'):GH w' a n T:=by
 obtain⟨b,G,e,hr,hj⟩:=h;exact⟨b,G,e,Ke hr hb,fun j h=>⟨(hj j h).1,Ab.row.below (hj j h).2 hb⟩⟩
theorem Gy.put{w:World}{a:Option Addr}{n:Nat}{T:Nat->Ae}{P ty N:Nat}{G:Nat->Value}(h:Gy w a n T)(hP:w.rowIs P ty N G)(h1:ty≠95)(h2:ty≠2)(h4:ty≠42)(i:Nat)(v:Value):Gy (w.setCell ⟨P,i,none⟩ v) a n T:=by
 obtain⟨b,G',e,hr,hj⟩:=h;exact⟨b,G',e,hr.setOther (Ew hr hP h4.symm) v,fun j h=>⟨(hj j h).1,Ae.row.put (hj j h).2 hP h1 h2 i v⟩⟩
theorem GH.put{w:World}{a:Option Addr}{n:Nat}{T:Nat->Ab}{P ty N:Nat}{G:Nat->Value}(h:GH w a n T)(hP:w.rowIs P ty N G)(h1:ty≠95)(h2:ty≠2)(h3:ty≠9)(h4:ty≠47)(i:Nat)(v:Value):GH (w.setCell ⟨P,i,none⟩ v) a n T:=by
 obtain⟨b,G',e,hr,hj⟩:=h;exact⟨b,G',e,hr.setOther (Ew hr hP h4.symm) v,fun j h=>⟨(hj j h).1,Ab.row.put (hj j h).2 hP h1 h2 h3 i v⟩⟩
theorem Ah.row{W:World}{P t:Nat}{cs:Array Value}(h:Ah W P (.cells cs t)):W.rowIs P t cs.size (fun i=>cs[i]?.getD undef):=⟨cs,h,rfl,fun i hi=>by simp[hi]⟩
def Av.same(k l:Av):Prop:=l.tn=k.tn/\(∀j,j<k.tn->(k.T j).same (l.T j))/\l.on=k.on/\(∀j,j<k.on->(k.O j).same (l.O j))
def Av.row(w:World)(k:Av):Prop:=Gy w k.ta k.tn k.T/\GH w k.oa k.on k.O
end Go.Proofs.YtallmkehpfaaeaaGreatDoor
