import Derived.Maps.Own
import Derived.Maps.OwnSet
import Derived.Test.YtblapfnglojgjaaGreatDoorZ1k
set_option maxRecDepth 100000
set_option maxHeartbeats 4000000
namespace Go.Proofs.YtblapfnglojgjaaGreatDoor
open Go.RowKit Go.Deep Go.Proofs.Tryz
variable {n k:Nat}
def Cj(t:Af):Bool:=Fa t.id t.made t.b1 t.c1.n t.c1.f t.c1.g t.b2 t.c2.n t.c2.f t.c2.g t.own.n t.own.h
theorem Xq(t:Af)(w:World)(ht:t.at w):
 Calls prog 52 #[t.val] w fun e w'=>e= .returned (.bool (Cj t))/\Below w w w':=TA _ _ _ _ _ _ _ _ _ _ _ _ _ _ _ _ _ _ w ht.1.1 ht.2.1.1 ht.2.2.1 ht.1.2 ht.2.1.2 ht.2.2.2
def Dw(T:Nat->Af)(i:Nat):Bool:=Cj (T i)&&(i==0||decide ((T (i-1)).id<(T i).id))
def Br(n:Nat)(T:Nat->Af):Bool:=decide (1<=n)&&decide (n<=9)&&(List.range n).all (Dw T)
def Ff(O:Nat->Ae)(i:Nat):Bool:=Bz (O i)&&(if i=0 then decide (0<(O 0).id)else decide ((O (i-1)).id<(O i).id))
def FJ(t:Ae):Bool:=t.id==1&&t.kind==3&&t.up==0
def BU(n:Nat)(O:Nat->Ae):Bool:=decide (1<=n)&&decide (n<=271)&&(List.range n).all (Ff O)&&FJ (O 0)
theorem HJ{p:Nat->Bool}(hk:k<n)(e:p k=false):(List.range n).all p=false:=by
 rw[List.all_eq_false];exact⟨k,List.mem_range.2 hk,by simp[e]⟩
theorem Ei{p:Nat->Bool}(e:∀i,i<n->p i=true):(List.range n).all p=true:=by
 rw[List.all_eq_true];intro i hi;exact e i (List.mem_range.1 hi)
theorem Gc{p:Nat->Bool}(e:(List.range n).all p=true):∀i,i<n->p i=true:=fun i hi=>List.all_eq_true.1 e i (List.mem_range.2 hi)
theorem Mc{t:Af}(h:Cj t=true):1<=t.id/\t.id<=9:=by
 unfold Cj Fa at h;simp only[Bool.and_eq_true]at h;exact Cv.1 (by simp_all)
theorem ZT{T:Nat->Af}(h:Cj (T k)=true)(e:(T k).id<=lastOf (fun i=>(T i).id) k):Dw T k=false:=by
 have h1:=Mc h;by_cases e0:k=0
 ·subst e0;simp[lastOf]at e;omega
 ·simp[lastOf,e0]at e;have:decide ((T (k-1)).id<(T k).id)=false:=by simp;omega
  simp[Dw,e0,this]
theorem Xo{T:Nat->Af}(h:Cj (T k)=true)(e:¬(T k).id<=lastOf (fun i=>(T i).id) k):Dw T k=true:=by
 by_cases e0:k=0
 ·subst e0;simp[Dw,h]
 ·simp[lastOf,e0]at e;simp[Dw,h,e]
theorem YL{O:Nat->Ae}(e:(O k).id<=lastOf (fun i=>(O i).id) k):Ff O k=false:=by
 by_cases e0:k=0
 ·subst e0;simp[lastOf]at e;simp[Ff];intro _;omega
 ·simp[lastOf,e0]at e;have:decide ((O (k-1)).id<(O k).id)=false:=by simp;omega
  simp[Ff,e0,this]
theorem Xs{O:Nat->Ae}(h:Bz (O k)=true)(e:¬(O k).id<=lastOf (fun i=>(O i).id) k):Ff O k=true:=by
 by_cases e0:k=0
 ·subst e0;simp[lastOf]at e;simp[Ff,h,e]
 ·simp[lastOf,e0]at e;simp[Ff,h,e,e0]
def Af.blk(t:Af):Obj:= .cells #[t.id,t.b1,t.c1.val,t.b2,t.c2.val,t.own.val,t.made] 47
theorem Ai.c0{W:World}{P t:Nat}{cs:Array Value}(h:Ai W P (.cells cs t))(i:Nat){v:Value}(hv:cs[i]? =some v):W.cell? ⟨P,i,none⟩=some v:=by
 unfold Ai at h;simp[World.cell?,h,hv]
theorem Qj(a:Option Addr)(n cap:Nat)(T:Nat->Af)(w:World)(hn:n<=maxLen)(hT:JR w a n T):
 Calls prog 23 #[.slice a n cap] w fun e w'=>e= .returned (.bool (Br n T))/\Below w w w':=by
 unfold maxLen at hn;have HT:=hid hT;clear hT;by_cases h1:n<1
 ·have h1':(n:Int)<1:=by omega
  go_enter func23,ntmps23
  go_wp2;go_ret;have:n=0:=by omega
  exact⟨Ag (by simp[Br,this]),Below.refl _ _⟩
 have h1':¬(n:Int)<1:=by omega
 by_cases h9:9<n
 ·have h9':(9:Int)<(n:Int):=by omega
  go_enter func23,ntmps23
  go_wp2;go_ret;have:decide (n<=9)=false:=by simp;omega
  exact⟨Ag (by simp[Br,this]),Below.refl _ _⟩
 have h9':¬(9:Int)<(n:Int):=by omega
 go_enter func23,ntmps23
 go_wp2;go_loopw [3,16] (fun l i wr=>∃k:Nat,k<=n/\i= .int .i64 k/\l= .int .i64 (lastOf (fun i=>(T i).id) k)/\Hid (∀j,j<k->Dw T j=true)/\Below w w wr) (fun _ i _=>n-(intOf i).toNat)
 case atStart=>exact⟨0,Nat.zero_le _,rfl,rfl,hid (fun j hj=>by omega),Below.refl _ _⟩
 case round=>
  obtain⟨k,hk,rfl,rfl,HA,hB⟩:=hrel;by_cases hlt:k<n
  ·obtain⟨b,off,rfl,hlt0,hcc⟩:=HT.out.below hB (by omega);obtain⟨⟨q0,q1,q2,q3,q4,q5,q6⟩,ht⟩:=hcc k hlt;have i1:(k:Int)<(n:Int):=(by omega);have b1:Below wr wr (wr.alloc (T k).blk):=CY wr _;have SZ:=hid (Xq (T k) _ (ht.below b1));have A0:=Ai.new wr (T k).blk;have B0:=Ac hB b1;simp only[AH.val,AU.val,Af.blk,Af.val]at q2 q4 q5 SZ A0 b1 B0;clear hcc ht;go_wp2_with fail
   refine SZ.out.mono ?_;rintro e w2 ⟨rfl,hb2⟩;have A2:=A0.below hb2;have x0:=A2.c0 0 rfl;have B2:=Ac B0 hb2;clear q0 q1 q2 q3 q4 q5 q6 SZ hb2 A0 B0 b1 hlt0;cases t1:Cj (T k)with
   |false=>
    go_wp2;go_ret;exact⟨Ag (by rw[Br,HJ hlt (by simp[Dw,t1])];simp),B2⟩
   |true=>
    by_cases t2:(T k).id<=lastOf (fun i=>(T i).id) k
    ·go_wp2;go_ret;exact⟨Ag (by rw[Br,HJ hlt (ZT t1 t2)];simp),B2⟩
    ·have HA2:Hid (∀j,j<k+1->Dw T j=true):=hid (fun j hj=>by
      by_cases e:j=k
      ·subst e;exact Xo t1 t2
      ·exact HA.out j (by omega))
     go_wp2;exact⟨⟨k+1,by omega,by go_num,by rw[Iw],HA2,B2⟩,by simp[intOf];omega⟩
  ·go_wp2;go_ret;have e:k=n:=(by omega);subst e;refine⟨Ag ?_,hB⟩;rw[Br,Ei HA.out];simp;omega
theorem Qc(a:Option Addr)(n cap:Nat)(O:Nat->Ae)(w:World)(hn:n<=maxLen)(hT:IF w a n O):
 Calls prog 24 #[.slice a n cap] w fun e w'=>e= .returned (.bool (BU n O))/\Below w w w':=by
 unfold maxLen at hn;have HT:=hid hT;clear hT;by_cases h1:n<1
 ·have h1':(n:Int)<1:=by omega
  go_enter func24,ntmps24
  go_wp2;go_ret;have:n=0:=by omega
  exact⟨Ag (by simp[BU,this]),Below.refl _ _⟩
 have h1':¬(n:Int)<1:=by omega
 by_cases h9:271<n
 ·have h9':(271:Int)<(n:Int):=by omega
  go_enter func24,ntmps24
  go_wp2;go_ret;have:decide (n<=271)=false:=by simp;omega
  exact⟨Ag (by simp[BU,this]),Below.refl _ _⟩
 have h9':¬(271:Int)<(n:Int):=by omega
 go_enter func24,ntmps24
 go_wp2;go_loopw [3,17] (fun l i wr=>∃k:Nat,k<=n/\i= .int .i64 k/\l= .int .i64 (lastOf (fun i=>(O i).id) k)/\Hid (∀j,j<k->Ff O j=true)/\Below w w wr) (fun _ i _=>n-(intOf i).toNat)
 case atStart=>exact⟨0,Nat.zero_le _,rfl,rfl,hid (fun j hj=>by omega),Below.refl _ _⟩
 case round=>
  obtain⟨k,hk,rfl,rfl,HA,hB⟩:=hrel;by_cases hlt:k<n
  ·obtain⟨b,off,rfl,hlt0,hcc⟩:=HT.out.below hB (by omega);obtain⟨⟨q0,q1,q2,q3,q4,q5,q6,q7,q8,q9⟩,ht⟩:=hcc k hlt;have i1:(k:Int)<(n:Int):=(by omega);have b1:Below wr wr (wr.alloc (.cells #[.int .i64 (O k).id,.int .i64 (O k).kind,.int .i64 (O k).up,.int .i64 (O k).b1,(O k).c1.val,.string (O k).data,(O k).jA.val,(O k).own.val,.int .i64 (O k).b2,(O k).c2.val] 51)):=CY wr _;have SZ:=hid (Sa (O k) _ (ht.below b1));have A0:=Ai.new wr (.cells #[.int .i64 (O k).id,.int .i64 (O k).kind,.int .i64 (O k).up,.int .i64 (O k).b1,(O k).c1.val,.string (O k).data,(O k).jA.val,(O k).own.val,.int .i64 (O k).b2,(O k).c2.val] 51);have B0:=Ac hB b1;simp only[AH.val,AU.val,AX.val,Ae.val]at q4 q6 q7 q9 SZ A0 b1 B0;clear hcc ht;go_wp2_with fail
   refine SZ.out.mono ?_;rintro e w2 ⟨rfl,hb2⟩;have A2:=A0.below hb2;have x0:=A2.c0 0 rfl;have B2:=Ac B0 hb2;clear q0 q1 q2 q3 q4 q5 q6 q7 q8 q9 SZ hb2 A0 B0 b1 hlt0;cases t1:Bz (O k)with
   |false=>
    go_wp2;go_ret;exact⟨Ag (by rw[BU,HJ hlt (by simp[Ff,t1])];simp),B2⟩
   |true=>
    by_cases t2:(O k).id<=lastOf (fun i=>(O i).id) k
    ·go_wp2;go_ret;exact⟨Ag (by rw[BU,HJ hlt (YL t2)];simp),B2⟩
    ·have HA2:Hid (∀j,j<k+1->Ff O j=true):=hid (fun j hj=>by
      by_cases e:j=k
      ·subst e;exact Xs t1 t2
      ·exact HA.out j (by omega))
     go_wp2;exact⟨⟨k+1,by omega,by go_num,by rw[Iw],HA2,B2⟩,by simp[intOf];omega⟩
  ·have e:k=n:=(by omega);subst e;obtain⟨b,off,rfl,hlt0,hcc⟩:=HT.out.below hB (by omega);obtain⟨⟨q0,q1,q2,q3,q4,q5,q6,q7,q8,q9⟩,ht⟩:=hcc 0 (by omega);simp only[Nat.zero_mul,Nat.add_zero]at q0 q1 q2 q3 q4 q5 q6 q7 q8 q9;have i0:(0:Int)<(k:Int):=(by omega);have OK:Hid (BU k O=FJ (O 0)):=hid (by
    have d1:decide (1<=k)=true:=(by simp;omega);have d2:decide (k<=271)=true:=(by simp;omega);rw[BU,Ei HA.out,d1,d2];rfl)
   simp only[AH.val,AU.val,AX.val]at q4 q6 q7 q9;clear hcc ht HA;go_wp2;all_goals
    go_ret;refine⟨Ag ?_,hB.alloc hB.size _⟩;rw[OK.out];clear q0 q1 q2 q3 q4 q5 q6 q7 q8 q9;simp_all[FJ]
open Go.Maps
variable {w w':World}{b n k o:Nat}
theorem SR:Keyed prog 2:=int_keyed underlying2
theorem cR(w:World):(zeroValue 2).run prog w= .ok (.int .i64 0) w:=by kernel_rfl
def look(f g:Nat->Int):Nat->Int->Option Int
 |0,_=>none
 |k+1,x=>if f k=x then some (g k)else look f g k x
def DC(w:World)(b n:Nat)(m:Int->Option Int):Prop:=
 ∃D:DataW Unit,w.ownsMap prog 2 (plainElem prog 2) b n D/\IsMap D/\
  ∀x,Maps.has D (.int .i64 x)=(m x).isSome/\∀v,m x=some v->D.atKey (.int .i64 x) (.lit (.int .i64 0))= .lit (.int .i64 v)
theorem DC.made(w:World):DC (w.alloc (.map #[] 0)) w 0 (fun _=>none):=
 ⟨.map [],World.ownsMap_made _ _ _ _,isMap_empty,fun x=>⟨rfl,fun v h=>by cases h⟩⟩
theorem DC.of_block{m:Int->Option Int}(h:DC w b n m)(e:w'.heap[b]? =w.heap[b]?):DC w' b n m:=by
 obtain⟨D,⟨es,clock,hb,F,hs,hD⟩,r⟩:=h;exact⟨D,⟨es,clock,e.trans hb,F,hs,hD⟩,r⟩
theorem DC.setCell{m:Int->Option Int}(h:DC w b n m){a:Addr}(ha:b≠a.block)(v:Value):DC (w.setCell a v) b n m:=h.of_block (blk_setCell_other _ _ _ _ ha)
theorem DC.lt{m:Int->Option Int}(h:DC w b n m):b<w.heap.size:=by
 obtain⟨D,h1,_⟩:=h;exact h1.lt
theorem DC.alloc{m:Int->Option Int}(h:DC w b n m)(o:Obj):DC (w.alloc o) b n m:=by
 obtain⟨D,h1,h2,h3⟩:=h;exact⟨D,h1.alloc o,h2,h3⟩
def jB(m:Int->Option Int)(k v:Int)(x:Int):Option Int:=if k=x then some v else m x
theorem DC.put{D:DataW Unit}{m:Int->Option Int}{k v:Int}(h2:IsMap D)
 (h3:∀x,Maps.has D (.int .i64 x)=(m x).isSome/\∀v,m x=some v->D.atKey (.int .i64 x) (.lit (.int .i64 0))= .lit (.int .i64 v)):
 IsMap (D.put (.int .i64 k) (.lit (.int .i64 v)))/\
 ∀x,Maps.has (D.put (.int .i64 k) (.lit (.int .i64 v))) (.int .i64 x)=(jB m k v x).isSome/\∀u,jB m k v x=some u->(D.put (.int .i64 k) (.lit (.int .i64 v))).atKey (.int .i64 x) (.lit (.int .i64 0))= .lit (.int .i64 u):=by
 refine⟨h2.put _ _,fun x=>?_⟩;by_cases e:k=x
 ·subst e;refine⟨?_,fun u hu=>?_⟩
  ·rw[has_put_same h2 (by trivial)];simp[jB]
  ·simp[jB]at hu;subst hu;exact atKey_put_same h2 (by trivial) _ _
 ·have hne:(Lit.int .i64 x)≠(Lit.int .i64 k):=by simp;exact fun h=>e h.symm
  refine⟨?_,fun u hu=>?_⟩
  ·rw[has_put_other hne];simp[jB,e];exact(h3 x).1
  ·simp[jB,e]at hu;rw[atKey_put_other hne];exact(h3 x).2 u hu
theorem Vo(f g:Nat->Int)(k:Nat):jB (look f g k) (f k) (g k)=look f g (k+1):=by
 funext x;rfl
theorem Df(hg:w.grownBy w' (some b))(hk:k<w.heap.size)(hne:k≠b):w'.cell? ⟨k,o,none⟩=w.cell? ⟨k,o,none⟩:=
 World.cell?_of_block (w:=w) (hg.block k hk (fun e=>hne (by simpa using e)))
theorem LZ(hg:w.grownBy w' (some b))(hk:k<w.heap.size)(hne:k≠b):w'.frozen? ⟨k,o,none⟩=w.frozen? ⟨k,o,none⟩:=
 World.frozen?_of_block (w:=w) (hg.block k hk (fun e=>hne (by simpa using e)))
variable {w:World}{b n:Nat}{x:Int}
theorem DC.below{w':World}{m:Int->Option Int}(h:DC w b n m)(hb:Below w w w'):DC w' b n m:=h.of_block (hb.block b h.lt)
theorem I0(h0: -9223372036854775808<=x)(h1:x<=9223372036854775807):(Lit.int .i64 x).wf=true:=WalkArith.wf_i64 ⟨h0,h1⟩
theorem RJ(h:(Lit.int .i64 x).wf=true): -9223372036854775808<=x/\x<=9223372036854775807:=by
 simp only[Lit.wf,Bool.and_eq_true,decide_eq_true_eq]at h;have e1:IntKind.i64.min= -9223372036854775808:=rfl;have e2:IntKind.i64.max=9223372036854775807:=rfl;omega
theorem DC.look{m:Int->Option Int}(h:DC w b n m)(hx:(Lit.int .i64 x).wf=true):
 (Instr.lookup 97 (.map (some b)) (.int .i64 x) false).run prog w= .ok (.int .i64 ((m x).getD 0)) w:=by
 obtain⟨D,hown,hD,hall⟩:=h;obtain⟨c,hrun,hat,_⟩:=hown.lookup_int SR underlying97 underlying2 (cR _) (keyOf_int_mk underlying2 hx);obtain⟨h1,h2⟩:=hall x;rw[hrun];cases hm:m x with
 |none=>
  have:Maps.has D (.int .i64 x)=false:=by rw[h1,hm];rfl
  rw[atKey_of_not_has this]at hat;simp at hat;simp[<-hat]
 |some v=>
  have:=(h2 v hm).symm.trans hat;simp at this;simp[this]
def madeOf(n:Nat)(T:Nat->Af)(x:Int):Int:=(look (fun i=>(T i).id) (fun i=>(T i).made) n x).getD 0
def FF(n:Nat)(T:Nat->Af)(id:Int):Bool:=decide (1<=id%1000)&&decide (id%1000<=madeOf n T (id/1000))
def Ha(n:Nat)(T:Nat->Af)(m:Nat)(O:Nat->Ae):Bool:=(List.range (m-1)).all (fun i=>FF n T (O (i+1)).id)
theorem Cx{T:Nat->Af}(h:Br n T=true):1<=n/\n<=9/\∀i,i<n->Dw T i=true:=by
 simp only[Br,Bool.and_eq_true,decide_eq_true_eq]at h;exact⟨h.1.1,h.1.2,Gc h.2⟩
theorem Oy{T:Nat->Af}{i:Nat}(h:Dw T i=true):Cj (T i)=true:=by
 simp only[Dw,Bool.and_eq_true]at h;exact h.1
theorem Ln{t:Af}(h:Cj t=true):0<=t.made/\t.made<=30:=by
 unfold Cj Fa at h;simp only[Bool.and_eq_true]at h;exact Cv.1 (by simp_all)
theorem BJ{O:Nat->Ae}(h:BU n O=true):1<=n/\n<=271/\(∀i,i<n->Ff O i=true)/\FJ (O 0)=true:=by
 simp only[BU,Bool.and_eq_true,decide_eq_true_eq]at h;exact⟨h.1.1.1,h.1.1.2,Gc h.1.2,h.2⟩
theorem Cq{O:Nat->Ae}(h:BU n O=true):Dt (fun i=>(O i).id) n:=by
 obtain⟨_,_,ha,_⟩:=BJ h;intro i j hij;induction j with
 |zero=>omega
 |succ j ih=>
  intro hj;have h1:=ha (j+1) hj;simp[Ff]at h1;by_cases e:i=j
  ·subst e;exact h1.2
  ·have:=ih (by omega) (by omega);simp only at this ⊢;omega
theorem Cu{O:Nat->Ae}(h:BU n O=true):(O 0).id=1/\(O 0).kind=3/\(O 0).up=0:=by
 obtain⟨_,_,_,hr⟩:=BJ h;simp only[FJ,Bool.and_eq_true,beq_iff_eq]at hr;exact⟨hr.1.1,hr.1.2,hr.2⟩
theorem Eo{O:Nat->Ae}(h:BU n O=true):∀i,i<n->1<=(O i).id:=by
 intro i hi;have hr:=(Cu h).1;by_cases e:i=0
 ·subst e;omega
 ·have:=Cq h 0 i (by omega) hi;simp only at this;omega
theorem Qr(k:AJ)(w:World)(hk:k.at w)(hcap:k.on<=k.ok)(h1:Br k.tn k.T=true)(h2:BU k.on k.O=true)(hw:∀i,i<k.on->(Lit.int .i64 (k.O i).id).wf=true):
 Calls prog 25 #[k.val] w fun e w'=>e= .returned (.bool (Ha k.tn k.T k.on k.O))/\Below w w w':=by
 have hmm:=@run_makeMap prog;obtain⟨ta,tn,tk,T,oa,on,ok,O⟩:=k;obtain⟨_,_,hT,hO⟩:=hk;unfold AJ.val;simp only at h1 h2 hw hT hO hcap ⊢;obtain⟨tn1,tn9,tall⟩:=Cx h1;obtain⟨on1,on2,_,_⟩:=BJ h2;have HT:=hid hT;have HO:=hid hO;obtain⟨tb,toff,rfl,_,_⟩:=hT (by omega);obtain⟨ob,ooff,rfl,_,_⟩:=hO (by omega);have HP:=hid (Eo h2);have HW:=hid hw;have HA:=hid tall;clear h1 h2 hw tall hT hO;have n2:Na #[.slice (some ⟨tb,toff,none⟩) tn tk,.slice (some ⟨ob,ooff,none⟩) on ok]:=⟨⟩;have hb0:=CY w (.cells n2 27);have A0:=Ai.new w (.cells n2 27);have hb1:=Ac hb0 (CY _ (.map #[] 0));have A1:=A0.alloc (.map #[] 0);have M0:=DC.made (w.alloc (.cells n2 27));go_enter func25,ntmps25
 go_wp2;generalize hW:((w.alloc (Obj.cells n2 27)).alloc (Obj.map #[] 0))=W at *;have M1:DC W (w.heap.size+1) 0 (look (fun i=>(T i).id) (fun i=>(T i).made) 0):=by simpa[look]using M0
 clear M0 hb0 A0 hmm hW;go_loopw [13] (fun i wr=>∃j:Nat,j<=tn/\i= .int .i64 j/\DC wr (w.heap.size+1) j (look (fun i=>(T i).id) (fun i=>(T i).made) j)/\Ai wr w (.cells n2 27)/\Below w w wr) (fun i _=>tn-(intOf i).toNat)
 case atStart=>exact⟨0,Nat.zero_le _,rfl,M1,A1,hb1⟩
 case round=>
  obtain⟨j,hj,rfl,HM,A,hB⟩:=hrel;clear M1 A1 hb1;by_cases hlt:j<tn
  ·obtain⟨_,_,ea,hlt0,hcc⟩:=HT.out.below hB (by omega);cases ea;obtain⟨⟨q0,q1,q2,q3,q4,q5,q6⟩,ht⟩:=hcc j hlt;have i1:(j:Int)<(tn:Int):=(by omega);have t1:=Oy (HA j hlt);have hkey:keyOf prog 2 (.int .i64 (T j).id)=some (.int .i64 (T j).id):=keyOf_int_mk underlying2 (I0 (by have:=Mc t1;omega) (by have:=Mc t1;omega));have W2:Hid ((Lit.int .i64 (T j).made).wf=true):=I0 (by have:=Ln t1;omega) (by have:=Ln t1;omega);have hlm:=HM.lt;obtain⟨D,hown,hD,hm⟩:=HM;simp only[AH.val,AU.val]at q2 q4 q5;clear hcc ht t1;go_wp2_with(at_mapUpdate;refine wpList_mapUpdate_own _ rfl _ _ _ 97 rfl 2 2 SR underlying97 _ (w.heap.size+1) j _ rfl (hown.alloc _) (by unfold maxLen;omega) _ _ _ rfl rfl hkey _ [] (plainElem_int underlying2 W2) ?_;intro w1 hown1 hgrow1)
   have hm1:=DC.put (k:=(T j).id) (v:=(T j).made) hD hm;rw[Vo (fun i=>(T i).id) (fun i=>(T i).made) j]at hm1;have A3:=A.alloc (.cells (T j) 47);refine⟨⟨j+1,by omega,by go_num,⟨_,hown1,hm1.1,hm1.2⟩,?_,?_⟩,by simp[intOf];omega⟩
   ·exact(hgrow1.block _ A3.lt (by simp)).trans A3
   ·exact(hB.alloc hB.size _).grown hgrow1 (by simp;omega) (fun i hi=>by cases hi;omega)
  ·have e:j=tn:=(by omega);subst e;have i1:¬(j:Int)<(j:Int):=(by omega);obtain⟨y0,y1⟩:=A.two;have c1:(on:Int)<=(ok:Int):=(by omega);have c2:(1:Int)<=(on:Int):=(by omega);clear HT HA y0;by_cases hok:ok=1
   ·obtain rfl:on=1:=by omega
    subst hok;go_wp2;go_loopw [27] (fun i wr'=>i= .int .i64 0/\Below w w wr') (fun i _=>0)
    case atStart=>exact⟨rfl,hB⟩
    case round=>
     obtain⟨rfl,hB'⟩:=hrel;go_wp2;go_ret;exact⟨Ag (by simp[Ha]),hB'⟩
   ·go_wp2;go_loopw [27] (fun i wr'=>∃q:Nat,q<=on-1/\i= .int .i64 q/\Hid (∀p,p<q->FF j T (O (p+1)).id=true)/\DC wr' (w.heap.size+1) j (look (fun i=>(T i).id) (fun i=>(T i).made) j)/\Below w w wr') (fun i _=>on-1-(intOf i).toNat)
    case atStart=>exact⟨0,Nat.zero_le _,rfl,hid (fun p hp=>by omega),HM,hB⟩
    case round=>
    obtain⟨q,hq,rfl,HN,HM',hB'⟩:=hrel;clear y1 A hB HM;by_cases hlt2:q<on-1
    ·obtain⟨_,_,ea,hlt0,hcc⟩:=HO.out.below hB' (by omega);cases ea;obtain⟨⟨q0,q1,q2,q3,q4,q5,q6,q7,q8,q9⟩,ht⟩:=hcc (q+1) (by omega);have ei:ooff+(q+1)*10=ooff+10+q*10:=(by omega);rw[ei]at q0 q1 q2 q3 q4 q5 q6 q7 q8 q9;have i2:(q:Int)<((on-1:Nat):Int):=(by omega);have hp:=HP.out (q+1) (by omega);simp only[AH.val,AU.val,AX.val]at q4 q6 q7 q9;have hww:=HW.out (q+1) (by omega);have hwb:=RJ hww;have ed:wrap64 ((O (q+1)).id.tdiv 1000)=(O (q+1)).id/1000:=by
      rw[Int.tdiv_eq_ediv_of_nonneg (by omega)];unfold wrap64;omega
     have n1:No (.cells (O (q+1)) 51):=⟨⟩;have LK:=(HM'.alloc n1).look (x:=(O (q+1)).id/1000) (I0 (by omega) (by omega));have em:((look (fun i=>(T i).id) (fun i=>(T i).made) j ((O (q+1)).id/1000)).getD 0)=madeOf j T ((O (q+1)).id/1000):=rfl;rw[em]at LK;have HMa:=HM'.alloc n1;clear hcc ht ei em hww hwb;go_wp2
     ·go_ret;have t1:madeOf j T ((O (q+1)).id/1000)<(O (q+1)).id%1000:=(by omega);refine⟨Ag ?_,hB'.alloc hB'.size _⟩;rw[Ha,HJ hlt2];have:decide ((O (q+1)).id%1000<=madeOf j T ((O (q+1)).id/1000))=false:=(by simp;omega);simp[FF,this]
     ·have t1:(O (q+1)).id%1000<=madeOf j T ((O (q+1)).id/1000):=(by omega);have t0:1<=(O (q+1)).id%1000:=(by assumption);refine⟨⟨q+1,by omega,by go_num,hid (fun p hp=>?_),HMa,hB'.alloc hB'.size _⟩,by simp[intOf];omega⟩;by_cases e:p=q
      ·subst e;simp[FF,t0,t1]
      ·exact HN.out p (by omega)
     ·go_ret;have t1:(O (q+1)).id%1000<1:=(by assumption);refine⟨Ag ?_,hB'.alloc hB'.size _⟩;rw[Ha,HJ hlt2];have:decide (1<=(O (q+1)).id%1000)=false:=(by simp;omega);simp[FF,this]
    ·have e:q=on-1:=(by omega);subst e;go_wp2;go_ret;exact⟨Ag (by rw[Ha,Ei HN.out]),hB'⟩
open Go
variable {ids:Nat->Int}{n:Nat}{x:Int}
def IJ:Option Nat->Int
 |none=> -1
 |some j=>j
theorem Ni{k:Nat}(hk:k<n)(he:ids k=x)(h:∀j,j<k->ids j≠x):Bv ids n x=some k:=by
 unfold Bv;rw[List.find?_range_eq_some];exact⟨by simpa using he,List.mem_range.2 hk,fun j hj=>by simpa using h j hj⟩
theorem PU(h:∀j,j<n->ids j≠x):Bv ids n x=none:=by
 unfold Bv;rw[List.find?_eq_none];intro j hj;simpa using h j (List.mem_range.1 hj)
theorem Lk(k:AJ)(x:Int)(w:World)(hk:k.at w):
 Calls prog 50 #[k.val,.int .i64 x] w fun e w'=>e= .returned (.int .i64 (IJ (Bv (fun i=>(k.O i).id) k.on x)))/\Below w w w':=by
 have n1:No (.cells #[.slice k.ta k.tn k.tk,.slice k.oa k.on k.ok] 27):=⟨⟩;have hb0:=(Below.refl _ w).alloc nr n1;have A0:=Ai.new w n1;have HT:=hid (hk.below hb0);have hn:=hk.2.1;unfold maxLen at hn;unfold AJ.val;obtain⟨x0,x1⟩:=A0.two;clear hk A0;go_enter func50,ntmps50
 go_wp2;generalize w.alloc n1=W at *;go_loop [5] (fun i=>∃q:Nat,q<=k.on/\i= .int .i64 q/\Hid (∀j,j<q->(k.O j).id≠x)) (fun i=>k.on-(intOf i).toNat)
 case atStart=>exact⟨0,Nat.zero_le _,rfl,hid (fun j hj=>by omega)⟩
 case round=>
  obtain⟨q,hq,rfl,HA⟩:=hrel;by_cases hlt:q<k.on
  ·obtain⟨b,off,ea,_,hcc⟩:=HT.out.2.2.2 (by omega);have q0:=(hcc q hlt).1.c0;have i1:(q:Int)<(k.on:Int):=(by omega);rw[ea]at x1;clear hcc ea;by_cases e:(k.O q).id=x
   ·have HF:=hid (Ni (ids:=fun i=>(k.O i).id) hlt e HA);have e':((k.O q).id==x)=true:=(by simpa using e);clear e HA;go_wp2;go_ret;exact⟨GI (by rw[HF.out];rfl),hb0⟩
   ·have e':((k.O q).id==x)=false:=(by simpa using e);have HA2:Hid (∀j,j<q+1->(k.O j).id≠x):=hid (fun j hj=>by
     by_cases ej:j=q
     ·subst ej;exact e
     ·exact HA.out j (by omega))
    clear e HA;go_wp2;exact⟨⟨q+1,by omega,by go_num,HA2⟩,by simp[intOf];omega⟩
  ·have i1:¬(q:Int)<(k.on:Int):=(by omega);have HF:=hid (PU (ids:=fun i=>(k.O i).id) (n:=k.on) (x:=x) (fun j hj=>HA j (by omega)));clear HA;go_wp2;go_ret;exact⟨GI (by rw[HF.out];rfl),hb0⟩
theorem Jp(k:AJ)(x:Int)(w:World)(hk:k.at w):
 Calls prog 49 #[k.val,.int .i64 x] w fun e w'=>e= .returned (.int .i64 (IJ (Bv (fun i=>(k.T i).id) k.tn x)))/\Below w w w':=by
 have n1:No (.cells #[.slice k.ta k.tn k.tk,.slice k.oa k.on k.ok] 27):=⟨⟩;have hb0:=(Below.refl _ w).alloc nr n1;have A0:=Ai.new w n1;have HT:=hid (hk.below hb0);have hn:=hk.1;unfold maxLen at hn;unfold AJ.val;obtain⟨x0,x1⟩:=A0.two;clear hk A0;go_enter func49,ntmps49
 go_wp2;generalize w.alloc n1=W at *;go_loop [5] (fun i=>∃q:Nat,q<=k.tn/\i= .int .i64 q/\Hid (∀j,j<q->(k.T j).id≠x)) (fun i=>k.tn-(intOf i).toNat)
 case atStart=>exact⟨0,Nat.zero_le _,rfl,hid (fun j hj=>by omega)⟩
 case round=>
  obtain⟨q,hq,rfl,HA⟩:=hrel;by_cases hlt:q<k.tn
  ·obtain⟨b,off,ea,_,hcc⟩:=HT.out.2.2.1 (by omega);have q0:=(hcc q hlt).1.c0;have i1:(q:Int)<(k.tn:Int):=(by omega);rw[ea]at x0;clear hcc ea;by_cases e:(k.T q).id=x
   ·have HF:=hid (Ni (ids:=fun i=>(k.T i).id) hlt e HA);have e':((k.T q).id==x)=true:=(by simpa using e);clear e HA;go_wp2;go_ret;exact⟨GI (by rw[HF.out];rfl),hb0⟩
   ·have e':((k.T q).id==x)=false:=(by simpa using e);have HA2:Hid (∀j,j<q+1->(k.T j).id≠x):=hid (fun j hj=>by
     by_cases ej:j=q
     ·subst ej;exact e
     ·exact HA.out j (by omega))
    clear e HA;go_wp2;exact⟨⟨q+1,by omega,by go_num,HA2⟩,by simp[intOf];omega⟩
  ·have i1:¬(q:Int)<(k.tn:Int):=(by omega);have HF:=hid (PU (ids:=fun i=>(k.T i).id) (n:=k.tn) (x:=x) (fun j hj=>HA j (by omega)));clear HA;go_wp2;go_ret;exact⟨GI (by rw[HF.out];rfl),hb0⟩
variable {k:AJ}{n:Nat}{id:Int}
def FX(n:Nat)(O:Nat->Ae)(x:Int):Bool:=match Bv (fun i=>(O i).id) n x with
 |some u=>(O u).kind==3
 |none=>false
def IK(n:Nat)(O:Nat->Ae):Bool:=(List.range (n-1)).all (fun i=>FX n O (O (i+1)).up)
def AW(k:AJ):Bool:=Br k.tn k.T&&BU k.on k.O&&Ha k.tn k.T k.on k.O&&IK k.on k.O&&Fc (fun i=>(k.O i).id) (fun i=>(k.O i).up) k.on
def Hu(k:AJ)(i:Nat):Bool:=Bz (k.O i)&&(if i=0 then FJ (k.O 0)else decide ((k.O (i-1)).id<(k.O i).id)&&FF k.tn k.T (k.O i).id&&FX k.on k.O (k.O i).up)
theorem Uk(h1:1<=k.on)(h2:k.on<=271):(BU k.on k.O&&Ha k.tn k.T k.on k.O&&IK k.on k.O)=(List.range k.on).all (Hu k):=by
 rw[Bool.eq_iff_iff];simp only[Bool.and_eq_true];constructor
 ·rintro⟨⟨ho,hn⟩,hu⟩;obtain⟨_,_,ha,hr⟩:=BJ ho;refine Ei fun i hi=>?_;have hai:=ha i hi;simp only[Ff,Bool.and_eq_true]at hai;simp only[Hu,hai.1,Bool.true_and];by_cases e:i=0
  ·rw[if_pos e];exact hr
  ·rw[if_neg e]at hai ⊢;have e1:i-1+1=i:=(by omega);have h3:=Gc hn (i-1) (by omega);have h4:=Gc hu (i-1) (by omega);simp only[e1]at h3 h4;simp only[hai.2,h3,h4,Bool.and_true]
 ·intro h;have ha:=Gc h;have h0:=ha 0 (by omega);simp only[Hu,if_true,Bool.and_eq_true]at h0;refine⟨⟨?_,?_⟩,?_⟩
  ·have:(List.range k.on).all (Ff k.O)=true:=Ei fun i hi=>by
    have hi':=ha i hi;simp only[Hu,Bool.and_eq_true]at hi';simp only[Ff,hi'.1,Bool.true_and];by_cases e:i=0
    ·rw[if_pos e];have:=h0.2;simp only[FJ,Bool.and_eq_true,beq_iff_eq]at this;simp[this.1.1]
    ·rw[if_neg e]at hi' ⊢;simp only[Bool.and_eq_true]at hi';exact hi'.2.1.1
   simp only[BU,this,h0.2,Bool.and_true,Bool.and_eq_true,decide_eq_true_eq];exact⟨h1,h2⟩
  ·refine Ei fun i hi=>?_;have hi':=ha (i+1) (by omega);simp only[Hu,Bool.and_eq_true]at hi';rw[if_neg (by omega)]at hi';simp only[Bool.and_eq_true]at hi';exact hi'.2.1.2
  ·refine Ei fun i hi=>?_;have hi':=ha (i+1) (by omega);simp only[Hu,Bool.and_eq_true]at hi';rw[if_neg (by omega)]at hi';simp only[Bool.and_eq_true]at hi';exact hi'.2.2
theorem JP(ht:Br k.tn k.T=true)(h1:1<=k.on)(h2:k.on<=271):AW k=((List.range k.on).all (Hu k)&&Fc (fun i=>(k.O i).id) (fun i=>(k.O i).up) k.on):=by
 rw[AW,ht,<-Uk h1 h2];simp[Bool.and_assoc]
theorem Hp(ht:Br k.tn k.T=false):AW k=false:=by simp[AW,ht]
theorem Je(h:¬(1<=k.on/\k.on<=271)):AW k=false:=by
 have:BU k.on k.O=false:=by
  cases e:BU k.on k.O with
  |false=>rfl
  |true=>obtain⟨a,b,_⟩:=BJ e;exact absurd ⟨a,b⟩ h
 simp[AW,this]
theorem Kk{T:Nat->Af}(h:Br n T=true):Dt (fun i=>(T i).id) n:=by
 obtain⟨_,_,ha⟩:=Cx h;intro i j hij;induction j with
 |zero=>omega
 |succ j ih=>
  intro hj;have h1:=ha (j+1) hj;simp[Dw]at h1;by_cases e:i=j
  ·subst e;exact h1.2
  ·have:=ih (by omega) (by omega);simp only at this ⊢;omega
theorem QQ{ids g:Nat->Int}(h:Dt ids n)(x:Int):look ids g n x=(Bv ids n x).map g:=by
 induction n with
 |zero=>rfl
 |succ n ih=>
  have ih':=ih (fun i j hij hj=>h i j hij (by omega));rw[look];split
  ·rename_i e;rw[<-e,Dx h (Nat.lt_succ_self n)];rfl
  ·rename_i e;rw[ih'];congr 1;cases e1:Bv ids n x with
   |none=>
    symm;refine PU fun j hj=>?_;by_cases ej:j=n
    ·subst ej;exact e
    ·exact Jz e1 j (by omega)
   |some j=>
    obtain⟨j1,j2⟩:=AZ e1;symm;rw[<-j2];exact Dx h (by omega)
theorem Ju{T:Nat->Af}(h:Br n T=true){t:Nat}(e:Bv (fun i=>(T i).id) n (id/1000)=some t):FF n T id=Ed (id%1000) 1 (T t).made:=by
 have:madeOf n T (id/1000)=(T t).made:=by
  unfold madeOf;rw[QQ (Kk h),e];rfl
 simp[FF,this,Ed]
theorem Lo{T:Nat->Af}(h:Br n T=true)(e:Bv (fun i=>(T i).id) n (id/1000)=none):FF n T id=false:=by
 have:madeOf n T (id/1000)=0:=by
  unfold madeOf;rw[QQ (Kk h),e];rfl
 simp[FF,this];intro _;omega
theorem cA{i:Nat}(h:∀j,j<i->Hu k j=true)(h0:0<i)(hl:(k.O (i-1)).id<(k.O i).id):1<=(k.O i).id:=by
 have:∀j,j<i->1<=(k.O j).id:=by
  intro j;induction j with
  |zero=>
   intro hj;have:=h 0 hj;simp only[Hu,if_true,Bool.and_eq_true,FJ,beq_iff_eq]at this;omega
  |succ j ih=>
   intro hj;have h1:=ih (by omega);have:=h (j+1) hj;simp only[Hu,Bool.and_eq_true]at this;rw[if_neg (by omega)]at this;simp only[Bool.and_eq_true,decide_eq_true_eq,Nat.add_sub_cancel]at this;omega
 have:=this (i-1) (by omega);omega
variable {w w':World}{b ty N:Nat}{t:Af}
def AH.same(c d:AH):Prop:=d.n=c.n/\d.f=c.f/\d.g=c.g
def AU.same(c d:AU):Prop:=d.n=c.n/\d.h=c.h
def Af.same(t u:Af):Prop:=u.id=t.id/\u.b1=t.b1/\t.c1.same u.c1/\u.b2=t.b2/\t.c2.same u.c2/\t.own.same u.own/\u.made=t.made
def AH.row(w:World)(c:AH):Prop:=∃b,c.a=some ⟨b,0,none⟩/\w.rowIs b 96 (c.n*2) (Dp c.f c.g)
def AU.row(w:World)(c:AU):Prop:=∃b,c.a=some ⟨b,0,none⟩/\w.rowIs b 2 c.n (fun i=> .int .i64 (c.h i))
def Af.row(w:World)(t:Af):Prop:=t.c1.row w/\t.c2.row w/\t.own.row w
theorem Nc{G:Nat->Value}(h:w.rowIs b ty N G)(hb:Below w w w'):w'.rowIs b ty N G:=h.of_block (hb.block b h.lt)
theorem Hb{b' t t' N':Nat}{G G':Nat->Value}(h:w.rowIs b t N G)(h':w.rowIs b' t' N' G')(ht:t≠t'):b≠b':=fun e=>by
 subst e;obtain⟨c,e1,_⟩:=h;obtain⟨c',e2,_⟩:=h';rw[e1]at e2;simp only[Option.some.injEq,Obj.cells.injEq]at e2;exact ht e2.2.1
theorem AH.row.below{c:AH}(h:c.row w)(hb:Below w w w'):c.row w':=by
 obtain⟨b,e,hr⟩:=h;exact⟨b,e,Nc hr hb⟩
theorem AU.row.below{c:AU}(h:c.row w)(hb:Below w w w'):c.row w':=by
 obtain⟨b,e,hr⟩:=h;exact⟨b,e,Nc hr hb⟩
theorem Af.row.below(h:t.row w)(hb:Below w w w'):t.row w':=⟨AH.row.below h.1 hb,AH.row.below h.2.1 hb,AU.row.below h.2.2 hb⟩
theorem Af.row.put{P:Nat}{G:Nat->Value}(h:t.row w)(hP:w.rowIs P ty N G)(h1:ty≠96)(h2:ty≠2)(i:Nat)(v:Value):t.row (w.setCell ⟨P,i,none⟩ v):=by
 obtain⟨⟨b1,e1,r1⟩,⟨b2,e2,r2⟩,⟨b3,e3,r3⟩⟩:=h;exact⟨⟨b1,e1,r1.setOther (Hb r1 hP h1.symm) v⟩,⟨b2,e2,r2.setOther (Hb r2 hP h1.symm) v⟩,⟨b3,e3,r3.setOther (Hb r3 hP h2.symm) v⟩⟩
theorem Af.row.at(h:t.row w)(hs:t.small):t.at w:=by
 obtain⟨⟨b1,e1,r1⟩,⟨b2,e2,r2⟩,⟨b3,e3,r3⟩⟩:=h;refine⟨⟨by unfold maxLen;have:=hs.1;omega,?_⟩,⟨by unfold maxLen;have:=hs.2.1;omega,?_⟩,⟨by unfold maxLen;have:=hs.2.2;omega,?_⟩⟩
 ·rw[e1];exact Bi.row r1
 ·rw[e2];exact Bi.row r2
 ·rw[e3];exact Ce.row r3
structure G7(G:Nat->Value)(o:Nat)(t:Af):Prop where
 g0:G o= .int .i64 t.id
 g1:G (o+1)= .int .i64 t.b1
 g2:G (o+2)=t.c1.val
 g3:G (o+3)= .int .i64 t.b2
 g4:G (o+4)=t.c2.val
 g5:G (o+5)=t.own.val
 g6:G (o+6)= .int .i64 t.made
theorem G7.cells{G:Nat->Value}{o:Nat}(hr:w.rowIs b ty N G)(h:G7 G o t)(ho:o+7<=N):KZ w b o t:=
 ⟨(hr.cell (by omega)).trans (congrArg some h.g0),(hr.cell (by omega)).trans (congrArg some h.g1),(hr.cell (by omega)).trans (congrArg some h.g2),(hr.cell (by omega)).trans (congrArg some h.g3),(hr.cell (by omega)).trans (congrArg some h.g4),(hr.cell (by omega)).trans (congrArg some h.g5),(hr.cell (by omega)).trans (congrArg some h.g6)⟩
theorem Tryz.info47:(prog.info? 47).map (fun i=>(i.zero,i.size,i.bytes))=some (some (.agg #[.int .i64 0,.int .i64 0,.slice none 0 0,.int .i64 0,.slice none 0 0,.slice none 0 0,.int .i64 0]),7,104):=by kernel_rfl
variable {W:World}{P t i:Nat}
theorem Tryz.info9:(prog.info? 9).map (fun i=>(i.zero,i.size,i.bytes))=some (some (.string ⟨#[]⟩),1,16):=by kernel_rfl
def AX.row(w:World)(c:AX):Prop:=∃b,c.a=some ⟨b,0,none⟩/\w.rowIs b 9 c.n (fun i=> .string (c.f i))
theorem Ai.jB{cs:Array Value}(h:Ai W P (.cells cs t))(v:Value):Ai (W.setCell ⟨P,i,none⟩ v) P (.cells (cs.setIfInBounds i v) t):=by
 unfold Ai at *;simp[World.setCell,Array.getElem?_modify,h]
theorem Ai.jC{cs:Array Value}(h:Ai W P (.cells cs t))(i:Nat):W.frozen? ⟨P,i,none⟩=false:=by
 unfold Ai at h;simp[World.frozen?,h]
theorem Ai.other{Q:Nat}{o:Obj}(h:Ai W P o)(hne:Q≠P)(v:Value):Ai (W.setCell ⟨Q,i,none⟩ v) P o:=by
 unfold Ai at *;simp[World.setCell,Array.getElem?_modify,h,hne]
theorem Ai.all10{z0 z1 z2 z3 z4 z5 z6 z7 z8 z9:Value}(h:Ai W P (.cells #[z0,z1,z2,z3,z4,z5,z6,z7,z8,z9] t))(x0 x1 x2 x3 x4 x5 x6 x7 x8 x9:Value):
 Ai ((((((((((W.setCell ⟨P,0,none⟩ x0).setCell ⟨P,1,none⟩ x1).setCell ⟨P,2,none⟩ x2).setCell ⟨P,3,none⟩ x3).setCell ⟨P,4,none⟩ x4).setCell ⟨P,5,none⟩ x5).setCell ⟨P,6,none⟩ x6).setCell ⟨P,7,none⟩ x7).setCell ⟨P,8,none⟩ x8).setCell ⟨P,9,none⟩ x9) P (.cells #[x0,x1,x2,x3,x4,x5,x6,x7,x8,x9] t):=by
 have h0:Ai _ P (.cells #[x0,z1,z2,z3,z4,z5,z6,z7,z8,z9] t):=h.jB (i:=0) x0;have h1:Ai _ P (.cells #[x0,x1,z2,z3,z4,z5,z6,z7,z8,z9] t):=h0.jB (i:=1) x1;have h2:Ai _ P (.cells #[x0,x1,x2,z3,z4,z5,z6,z7,z8,z9] t):=h1.jB (i:=2) x2;have h3:Ai _ P (.cells #[x0,x1,x2,x3,z4,z5,z6,z7,z8,z9] t):=h2.jB (i:=3) x3;have h4:Ai _ P (.cells #[x0,x1,x2,x3,x4,z5,z6,z7,z8,z9] t):=h3.jB (i:=4) x4;have h5:Ai _ P (.cells #[x0,x1,x2,x3,x4,x5,z6,z7,z8,z9] t):=h4.jB (i:=5) x5;have h6:Ai _ P (.cells #[x0,x1,x2,x3,x4,x5,x6,z7,z8,z9] t):=h5.jB (i:=6) x6;have h7:Ai _ P (.cells #[x0,x1,x2,x3,x4,x5,x6,x7,z8,z9] t):=h6.jB (i:=7) x7;have h8:Ai _ P (.cells #[x0,x1,x2,x3,x4,x5,x6,x7,x8,z9] t):=h7.jB (i:=8) x8;exact h8.jB (i:=9) x9

variable {w w':World}{t:Ae}
def AX.same(c d:AX):Prop:=d.n=c.n/\d.f=c.f
def Ae.same(t u:Ae):Prop:=u.id=t.id/\u.kind=t.kind/\u.up=t.up/\u.b1=t.b1/\t.c1.same u.c1/\u.data=t.data/\t.jA.same u.jA/\t.own.same u.own/\u.b2=t.b2/\t.c2.same u.c2
def Ae.row(w:World)(t:Ae):Prop:=t.c1.row w/\t.jA.row w/\t.own.row w/\t.c2.row w
theorem AX.row.below{c:AX}(h:c.row w)(hb:Below w w w'):c.row w':=by
 obtain⟨b,e,hr⟩:=h;exact⟨b,e,Nc hr hb⟩
theorem Ae.row.below(h:t.row w)(hb:Below w w w'):t.row w':=⟨AH.row.below h.1 hb,AX.row.below h.2.1 hb,AU.row.below h.2.2.1 hb,AH.row.below h.2.2.2 hb⟩
theorem Ae.row.put{P ty N:Nat}{G:Nat->Value}(h:t.row w)(hP:w.rowIs P ty N G)(h1:ty≠96)(h2:ty≠2)(h3:ty≠9)(i:Nat)(v:Value):t.row (w.setCell ⟨P,i,none⟩ v):=by
 obtain⟨⟨b1,e1,r1⟩,⟨b2,e2,r2⟩,⟨b3,e3,r3⟩,⟨b4,e4,r4⟩⟩:=h;exact⟨⟨b1,e1,r1.setOther (Hb r1 hP h1.symm) v⟩,⟨b2,e2,r2.setOther (Hb r2 hP h3.symm) v⟩,⟨b3,e3,r3.setOther (Hb r3 hP h2.symm) v⟩,⟨b4,e4,r4.setOther (Hb r4 hP h1.symm) v⟩⟩
structure di(G:Nat->Value)(o:Nat)(u:Ae):Prop where
 g0:G (o)= .int .i64 u.id
 g1:G (o+1)= .int .i64 u.kind
 g2:G (o+2)= .int .i64 u.up
 g3:G (o+3)= .int .i64 u.b1
 g4:G (o+4)=u.c1.val
 g5:G (o+5)= .string u.data
 g6:G (o+6)=u.jA.val
 g7:G (o+7)=u.own.val
 g8:G (o+8)= .int .i64 u.b2
 g9:G (o+9)=u.c2.val
theorem Tryz.info51:(prog.info? 51).map (fun i=>(i.zero,i.size,i.bytes))=some (some (.agg #[.int .i64 0,.int .i64 0,.int .i64 0,.int .i64 0,.slice none 0 0,.string ⟨#[]⟩,.slice none 0 0,.slice none 0 0,.int .i64 0,.slice none 0 0]),10,152):=by kernel_rfl
variable {w w':World}{a:Option Addr}{n P ty N:Nat}
def IG(w:World)(a:Option Addr)(n:Nat)(T:Nat->Af):Prop:=∃b G,a=some ⟨b,0,none⟩/\w.rowIs b 47 (n*7) G/\∀j,j<n->G7 G (j*7) (T j)/\(T j).row w
def Iz(w:World)(a:Option Addr)(n:Nat)(T:Nat->Ae):Prop:=∃b G,a=some ⟨b,0,none⟩/\w.rowIs b 51 (n*10) G/\∀j,j<n->di G (j*10) (T j)/\(T j).row w
theorem IG.below{T:Nat->Af}(h:IG w a n T)(hb:Below w w w'):IG w' a n T:=by
 obtain⟨b,G,e,hr,hj⟩:=h;exact⟨b,G,e,Nc hr hb,fun j h=>⟨(hj j h).1,Af.row.below (hj j h).2 hb⟩⟩
theorem Iz.below{T:Nat->Ae}(h:Iz w a n T)(hb:Below w w w'):Iz w' a n T:=by
 obtain⟨b,G,e,hr,hj⟩:=h;exact⟨b,G,e,Nc hr hb,fun j h=>⟨(hj j h).1,Ae.row.below (hj j h).2 hb⟩⟩
theorem IG.put{T:Nat->Af}{G:Nat->Value}(h:IG w a n T)(hP:w.rowIs P ty N G)(h1:ty≠96)(h2:ty≠2)(h4:ty≠47)(i:Nat)(v:Value):IG (w.setCell ⟨P,i,none⟩ v) a n T:=by
 obtain⟨b,G',e,hr,hj⟩:=h;exact⟨b,G',e,hr.setOther (Hb hr hP h4.symm) v,fun j h=>⟨(hj j h).1,Af.row.put (hj j h).2 hP h1 h2 i v⟩⟩
theorem Iz.put{T:Nat->Ae}{G:Nat->Value}(h:Iz w a n T)(hP:w.rowIs P ty N G)(h1:ty≠96)(h2:ty≠2)(h3:ty≠9)(h4:ty≠51)(i:Nat)(v:Value):Iz (w.setCell ⟨P,i,none⟩ v) a n T:=by
 obtain⟨b,G',e,hr,hj⟩:=h;exact⟨b,G',e,hr.setOther (Hb hr hP h4.symm) v,fun j h=>⟨(hj j h).1,Ae.row.put (hj j h).2 hP h1 h2 h3 i v⟩⟩
theorem Ai.row{W:World}{t:Nat}{cs:Array Value}(h:Ai W P (.cells cs t)):W.rowIs P t cs.size (fun i=>cs[i]?.getD undef):=⟨cs,h,rfl,fun i hi=>by simp[hi]⟩
def AJ.same(k l:AJ):Prop:=l.tn=k.tn/\(∀j,j<k.tn->(k.T j).same (l.T j))/\l.on=k.on/\(∀j,j<k.on->(k.O j).same (l.O j))
def AJ.row(w:World)(k:AJ):Prop:=IG w k.ta k.tn k.T/\Iz w k.oa k.on k.O
variable {ids ids' ups ups':Nat->Int}{n i:Nat}
theorem JW(h:∀i,i<n->ids' i=ids i)(x:Int):Bv ids' n x=Bv ids n x:=by
 apply Option.ext;intro j;unfold Bv;rw[List.find?_range_eq_some,List.find?_range_eq_some];constructor
 ·rintro⟨h1,h2,h3⟩;have hj:=List.mem_range.1 h2;rw[h j hj]at h1;exact⟨h1,h2,fun i hi=>by have:=h3 i hi;rw[h i (by omega)]at this;exact this⟩
 ·rintro⟨h1,h2,h3⟩;have hj:=List.mem_range.1 h2;rw[<-h j hj]at h1;exact⟨h1,h2,fun i hi=>by have:=h3 i hi;rw[<-h i (by omega)]at this;exact this⟩
theorem X5(h:∀i,i<n->ids' i=ids i)(hu:∀i,i<n->ups' i=ups i)(hi:i<n):Ky ids' ups' n i=Ky ids ups n i:=by
 unfold Ky;rw[hu i hi,JW h]
theorem Us(h:∀i,i<n->ids' i=ids i)(hu:∀i,i<n->ups' i=ups i)(m:Nat)(hi:i<n):Bn ids' ups' n m i=Bn ids ups n m i:=by
 induction m generalizing i with
 |zero=>rfl
 |succ m ih=>
  simp only[Bn];rw[X5 h hu hi];cases e:Ky ids ups n i with
  |none=>rfl
  |some j=>exact ih (Pz e)
theorem I5{p q:Nat->Bool}(h:∀i,i<n->p i=q i):(List.range n).all p=(List.range n).all q:=by
 rw[Bool.eq_iff_iff];constructor
 ·intro e;exact Ei fun i hi=>by rw[<-h i hi];exact Gc e i hi
 ·intro e;exact Ei fun i hi=>by rw[h i hi];exact Gc e i hi
theorem Sm(h:∀i,i<n->ids' i=ids i)(hu:∀i,i<n->ups' i=ups i):Fc ids' ups' n=Fc ids ups n:=by
 unfold Fc;refine I5 fun i hi=>?_;congr 1;funext m;rw[Us h hu m hi]
theorem U7{t u:Af}(h:t.same u):Cj u=Cj t:=by
 obtain⟨h1,h2,⟨a1,a2,a3⟩,h3,⟨b1,b2,b3⟩,⟨c1,c2⟩,h4⟩:=h;simp only[Cj,h1,h2,h3,h4,a1,a2,a3,b1,b2,b3,c1,c2]
theorem Vb{t u:Ae}(h:t.same u):Bz u=Bz t:=by
 obtain⟨h1,h2,h3,h4,⟨a1,a2,a3⟩,h5,⟨d1,d2⟩,⟨c1,c2⟩,h6,⟨b1,b2,b3⟩⟩:=h;simp only[Bz,Gk,h2,h4,h5,h6,a1,a2,a3,b1,b2,b3,c1,c2,d1,d2]
theorem Vz{f g f' g':Nat->Int}(hf:∀i,i<n->f' i=f i)(hg:∀i,i<n->g' i=g i)(x:Int):look f' g' n x=look f g n x:=by
 induction n with
 |zero=>rfl
 |succ n ih=>
  rw[look,look,hf n (by omega),hg n (by omega),ih (fun i hi=>hf i (by omega)) (fun i hi=>hg i (by omega))]
theorem Du{k l:AJ}(h:k.same l):AW l=AW k:=by
 obtain⟨h1,h2,h3,h4⟩:=h;have i1:∀i,i<k.on->(l.O i).id=(k.O i).id:=fun i hi=>(h4 i hi).1;have u1:∀i,i<k.on->(l.O i).up=(k.O i).up:=fun i hi=>(h4 i hi).2.2.1;have k1:∀i,i<k.on->(l.O i).kind=(k.O i).kind:=fun i hi=>(h4 i hi).2.1;have t1:∀i,i<k.tn->(l.T i).id=(k.T i).id:=fun i hi=>(h2 i hi).1;have m1:∀i,i<k.tn->(l.T i).made=(k.T i).made:=fun i hi=>(h2 i hi).2.2.2.2.2.2;by_cases h0:1<=k.on
 ·have e1:Br l.tn l.T=Br k.tn k.T:=by
   unfold Br;rw[h1];congr 1;refine I5 fun i hi=>?_;unfold Dw;rw[U7 (h2 i hi),t1 i hi];by_cases e:i=0
   ·subst e;rfl
   ·rw[t1 (i-1) (by omega)]
  have e2:BU l.on l.O=BU k.on k.O:=by
   unfold BU FJ;rw[h3,i1 0 h0,u1 0 h0,k1 0 h0];congr 2;refine I5 fun i hi=>?_;unfold Ff;rw[Vb (h4 i hi),i1 0 h0,i1 i hi];by_cases e:i=0
   ·subst e;rfl
   ·rw[i1 (i-1) (by omega)]
  have e3:Ha l.tn l.T l.on l.O=Ha k.tn k.T k.on k.O:=by
   unfold Ha;rw[h3];refine I5 fun i hi=>?_;unfold FF madeOf;rw[i1 (i+1) (by omega),h1,Vz t1 m1]
  have e4:IK l.on l.O=IK k.on k.O:=by
   unfold IK;rw[h3];refine I5 fun i hi=>?_;unfold FX;rw[u1 (i+1) (by omega),JW i1];split
   ·rename_i u hu;rw[k1 u (AZ hu).1]
   ·rfl
  unfold AW;rw[e1,e2,e3,e4,h3,Sm i1 u1]
 ·rw[Je (k:=k) (by omega),Je (k:=l) (by rw[h3];omega)]
end Go.Proofs.YtblapfnglojgjaaGreatDoor
