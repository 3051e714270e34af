import Derived.Test.YtbacmamplkdgaaaGreatDoorZ1b
import Derived.Test.YtbacmamplkdgaaaGreatDoorZ0b
import Derived.Maps.Own
import Derived.Maps.OwnSet
set_option maxRecDepth 100000
set_option maxHeartbeats 4000000
namespace Go.Proofs.YtbacmamplkdgaaaGreatDoor
open Go.RowKit Go.Deep
def thrOkV(t:ThrV):Bool:=thrOk t.id t.made t.b1 t.c1.n t.c1.f t.c1.g t.b2 t.c2.n t.c2.f t.c2.g t.own.n t.own.h
theorem implThr_v(t:ThrV)(w:World)(ht:t.at w):
 Calls Tryz.prog 98 #[t.val] w fun e w'=>e= .returned (.bool (thrOkV t))∧Below w.heap.size w w':=implThr_any _ _ _ _ _ _ _ _ _ _ _ _ _ _ _ _ _ _ w ht.1.1 ht.2.1.1 ht.2.2.1 ht.1.2 ht.2.1.2 ht.2.2.2
def thrAt(T:Nat→ThrV)(i:Nat):Bool:=thrOkV (T i)&&(i==0||decide ((T (i-1)).id<(T i).id))
def thrsOk(n:Nat)(T:Nat→ThrV):Bool:=decide (1≤n)&&decide (n≤9)&&(List.range n).all (thrAt T)
def objAt(O:Nat→ObjV)(i:Nat):Bool:=objOk (O i)&&(if i=0 then decide (0<(O 0).id)else decide ((O (i-1)).id<(O i).id))
def rootB(t:ObjV):Bool:=t.id==1&&t.kind==3&&t.up==0
def objsOk(n:Nat)(O:Nat→ObjV):Bool:=decide (1≤n)&&decide (n≤271)&&(List.range n).all (objAt O)&&rootB (O 0)
theorem all_at{n k:Nat}{p:Nat→Bool}(hk:k<n)(e:p k=false):(List.range n).all p=false:=by
 rw[List.all_eq_false];exact⟨k,List.mem_range.2 hk,by simp[e]⟩
theorem all_yes{n:Nat}{p:Nat→Bool}(e:∀i,i<n→p i=true):(List.range n).all p=true:=by
 rw[List.all_eq_true];intro i hi;exact e i (List.mem_range.1 hi)
theorem all_out{n:Nat}{p:Nat→Bool}(e:(List.range n).all p=true):∀i,i<n→p i=true:=fun i hi=>List.all_eq_true.1 e i (List.mem_range.2 hi)
theorem thrOk_id{t:ThrV}(h:thrOkV t=true):1≤t.id∧t.id≤9:=by
 unfold thrOkV thrOk at h;simp only[Bool.and_eq_true]at h;exact inB_iff.1 (by simp_all)
theorem thrAt_no{T:Nat→ThrV}{k:Nat}(h:thrOkV (T k)=true)(e:(T k).id≤lastOf (fun i=>(T i).id) k):thrAt T k=false:=by
 have h1:=thrOk_id h;by_cases e0:k=0
 ·subst e0;simp[lastOf]at e;omega
 ·simp[lastOf,e0]at e;have:decide ((T (k-1)).id<(T k).id)=false:=by simp;omega
  simp[thrAt,e0,this]
theorem thrAt_yes{T:Nat→ThrV}{k:Nat}(h:thrOkV (T k)=true)(e:¬(T k).id≤lastOf (fun i=>(T i).id) k):thrAt T k=true:=by
 by_cases e0:k=0
 ·subst e0;simp[thrAt,h]
 ·simp[lastOf,e0]at e;simp[thrAt,h,e]
theorem objAt_no{O:Nat→ObjV}{k:Nat}(e:(O k).id≤lastOf (fun i=>(O i).id) k):objAt O k=false:=by
 by_cases e0:k=0
 ·subst e0;simp[lastOf]at e;simp[objAt];intro _;omega
 ·simp[lastOf,e0]at e;have:decide ((O (k-1)).id<(O k).id)=false:=by simp;omega
  simp[objAt,e0,this]
theorem objAt_yes{O:Nat→ObjV}{k:Nat}(h:objOk (O k)=true)(e:¬(O k).id≤lastOf (fun i=>(O i).id) k):objAt O k=true:=by
 by_cases e0:k=0
 ·subst e0;simp[lastOf]at e;simp[objAt,h,e]
 ·simp[lastOf,e0]at e;simp[objAt,h,e,e0]
def ThrV.blk(t:ThrV):Obj:= .cells #[.int .i64 t.id,.int .i64 t.b1,t.c1.val,.int .i64 t.b2,t.c2.val,t.own.val,.int .i64 t.made] 75
theorem Blk.c0{W:World}{P t:Nat}{cs:Array Value}(h:Blk W P (.cells cs t))(i:Nat){v:Value}(hv:cs[i]? =some v):W.cell? ⟨P,i,none⟩=some v:=by
 unfold Blk at h;simp[World.cell?,h,hv]
theorem threadsOk_any(a:Option Addr)(n cap:Nat)(T:Nat→ThrV)(w:World)(hn:n≤maxLen)(hT:ThrsAt w a n T):
 Calls Tryz.prog 59 #[.slice a n cap] w fun e w'=>e= .returned (.bool (thrsOk n T))∧Below w.heap.size w w':=by
 unfold maxLen at hn;have HT:=hid hT;clear hT;by_cases h1:n<1
 ·have h1':(n:Int)<1:=by omega
  go_enter Tryz.func59,Tryz.ntmps59
  go_wp2;go_ret;have:n=0:=by omega
  exact⟨ret_bool (by simp[thrsOk,this]),Below.refl _ _⟩
 have h1':¬(n:Int)<1:=by omega
 by_cases h9:9<n
 ·have h9':(9:Int)<(n:Int):=by omega
  go_enter Tryz.func59,Tryz.ntmps59
  go_wp2;go_ret;have:decide (n≤9)=false:=by simp;omega
  exact⟨ret_bool (by simp[thrsOk,this]),Below.refl _ _⟩
 have h9':¬(9:Int)<(n:Int):=by omega
 go_enter Tryz.func59,Tryz.ntmps59
 go_wp2;go_loopw [3,16] (fun l i wr=>∃k:Nat,k≤n∧i= .int .i64 k∧l= .int .i64 (lastOf (fun i=>(T i).id) k)∧Hid (∀j,j<k→thrAt T j=true)∧Below w.heap.size w wr) (fun _ i _=>n-(intOf i).toNat)
 case atStart=>exact⟨0,Nat.zero_le _,rfl,rfl,hid (fun j hj=>by omega),Below.refl _ _⟩
 case round=>
  obtain⟨k,hk,rfl,rfl,HA,hB⟩:=hrel;by_cases hlt:k<n
  ·obtain⟨b,off,rfl,hlt0,hcc⟩:=HT.out.below hB (by omega);obtain⟨⟨q0,q1,q2,q3,q4,q5,q6⟩,ht⟩:=hcc k hlt;have i1:(k:Int)<(n:Int):=(by omega);have b1:Below wr.heap.size wr (wr.alloc (T k).blk):=(Below.refl _ wr).alloc (Nat.le_refl _) _;have SZ:=hid (implThr_v (T k) _ (ht.below b1));have A0:=Blk.new wr (T k).blk;have B0:=then_ hB b1;simp only[CatL.val,IntL.val,ThrV.blk,ThrV.val]at q2 q4 q5 SZ A0 b1 B0;clear hcc ht;go_wp2_with fail
   refine SZ.out.mono ?_;rintro e w2 ⟨rfl,hb2⟩;have A2:=A0.below hb2;have x0:=A2.c0 0 rfl;have B2:=then_ B0 hb2;clear q0 q1 q2 q3 q4 q5 q6 SZ hb2 A0 B0 b1 hlt0;cases t1:thrOkV (T k)with
   |false=>
    go_wp2;go_ret;exact⟨ret_bool (by rw[thrsOk,all_at hlt (by simp[thrAt,t1])];simp),B2⟩
   |true=>
    by_cases t2:(T k).id≤lastOf (fun i=>(T i).id) k
    ·go_wp2;go_ret;exact⟨ret_bool (by rw[thrsOk,all_at hlt (thrAt_no t1 t2)];simp),B2⟩
    ·have HA2:Hid (∀j,j<k+1→thrAt T j=true):=hid (fun j hj=>by
      by_cases e:j=k
      ·subst e;exact thrAt_yes t1 t2
      ·exact HA.out j (by omega))
     go_wp2;exact⟨⟨k+1,by omega,by go_num,by rw[lastOf_succ],HA2,B2⟩,by simp[intOf];omega⟩
  ·go_wp2;go_ret;have e:k=n:=(by omega);subst e;refine⟨ret_bool ?_,hB⟩;rw[thrsOk,all_yes HA.out];simp;omega
theorem objectsOk_any(a:Option Addr)(n cap:Nat)(O:Nat→ObjV)(w:World)(hn:n≤maxLen)(hT:ObjsAt w a n O):
 Calls Tryz.prog 60 #[.slice a n cap] w fun e w'=>e= .returned (.bool (objsOk n O))∧Below w.heap.size w w':=by
 unfold maxLen at hn;have HT:=hid hT;clear hT;by_cases h1:n<1
 ·have h1':(n:Int)<1:=by omega
  go_enter Tryz.func60,Tryz.ntmps60
  go_wp2;go_ret;have:n=0:=by omega
  exact⟨ret_bool (by simp[objsOk,this]),Below.refl _ _⟩
 have h1':¬(n:Int)<1:=by omega
 by_cases h9:271<n
 ·have h9':(271:Int)<(n:Int):=by omega
  go_enter Tryz.func60,Tryz.ntmps60
  go_wp2;go_ret;have:decide (n≤271)=false:=by simp;omega
  exact⟨ret_bool (by simp[objsOk,this]),Below.refl _ _⟩
 have h9':¬(271:Int)<(n:Int):=by omega
 go_enter Tryz.func60,Tryz.ntmps60
 go_wp2;go_loopw [3,17] (fun l i wr=>∃k:Nat,k≤n∧i= .int .i64 k∧l= .int .i64 (lastOf (fun i=>(O i).id) k)∧Hid (∀j,j<k→objAt O j=true)∧Below w.heap.size w wr) (fun _ i _=>n-(intOf i).toNat)
 case atStart=>exact⟨0,Nat.zero_le _,rfl,rfl,hid (fun j hj=>by omega),Below.refl _ _⟩
 case round=>
  obtain⟨k,hk,rfl,rfl,HA,hB⟩:=hrel;by_cases hlt:k<n
  ·obtain⟨b,off,rfl,hlt0,hcc⟩:=HT.out.below hB (by omega);obtain⟨⟨q0,q1,q2,q3,q4,q5,q6,q7,q8,q9⟩,ht⟩:=hcc k hlt;have i1:(k:Int)<(n:Int):=(by omega);have b1:Below wr.heap.size wr (wr.alloc (.cells #[.int .i64 (O k).id,.int .i64 (O k).kind,.int .i64 (O k).up,.int .i64 (O k).b1,(O k).c1.val,.string (O k).data,(O k).items.val,(O k).own.val,.int .i64 (O k).b2,(O k).c2.val] 42)):=(Below.refl _ wr).alloc (Nat.le_refl _) _;have SZ:=hid (objectOk_any (O k) _ (ht.below b1));have A0:=Blk.new wr (.cells #[.int .i64 (O k).id,.int .i64 (O k).kind,.int .i64 (O k).up,.int .i64 (O k).b1,(O k).c1.val,.string (O k).data,(O k).items.val,(O k).own.val,.int .i64 (O k).b2,(O k).c2.val] 42);have B0:=then_ hB b1;simp only[CatL.val,IntL.val,StrL.val,ObjV.val]at q4 q6 q7 q9 SZ A0 b1 B0;clear hcc ht;go_wp2_with fail
   refine SZ.out.mono ?_;rintro e w2 ⟨rfl,hb2⟩;have A2:=A0.below hb2;have x0:=A2.c0 0 rfl;have B2:=then_ B0 hb2;clear q0 q1 q2 q3 q4 q5 q6 q7 q8 q9 SZ hb2 A0 B0 b1 hlt0;cases t1:objOk (O k)with
   |false=>
    go_wp2;go_ret;exact⟨ret_bool (by rw[objsOk,all_at hlt (by simp[objAt,t1])];simp),B2⟩
   |true=>
    by_cases t2:(O k).id≤lastOf (fun i=>(O i).id) k
    ·go_wp2;go_ret;exact⟨ret_bool (by rw[objsOk,all_at hlt (objAt_no t2)];simp),B2⟩
    ·have HA2:Hid (∀j,j<k+1→objAt O j=true):=hid (fun j hj=>by
      by_cases e:j=k
      ·subst e;exact objAt_yes t1 t2
      ·exact HA.out j (by omega))
     go_wp2;exact⟨⟨k+1,by omega,by go_num,by rw[lastOf_succ],HA2,B2⟩,by simp[intOf];omega⟩
  ·have e:k=n:=(by omega);subst e;obtain⟨b,off,rfl,hlt0,hcc⟩:=HT.out.below hB (by omega);obtain⟨⟨q0,q1,q2,q3,q4,q5,q6,q7,q8,q9⟩,ht⟩:=hcc 0 (by omega);simp only[Nat.zero_mul,Nat.add_zero]at q0 q1 q2 q3 q4 q5 q6 q7 q8 q9;have i0:(0:Int)<(k:Int):=(by omega);have OK:Hid (objsOk k O=rootB (O 0)):=hid (by
    have d1:decide (1≤k)=true:=(by simp;omega);have d2:decide (k≤271)=true:=(by simp;omega);rw[objsOk,all_yes HA.out,d1,d2];rfl)
   simp only[CatL.val,IntL.val,StrL.val]at q4 q6 q7 q9;clear hcc ht HA;go_wp2;all_goals
    go_ret;refine⟨ret_bool ?_,hB.alloc hB.size _⟩;rw[OK.out];clear q0 q1 q2 q3 q4 q5 q6 q7 q8 q9;simp_all[rootB]
open Go.Maps
theorem keyed2:Keyed Tryz.prog 2:=int_keyed Tryz.underlying2
theorem zero2(w:World):(zeroValue 2).run Tryz.prog w= .ok (.int .i64 0) w:=by kernel_rfl
def look(f g:Nat→Int):Nat→Int→Option Int
 |0,_=>none
 |k+1,x=>if f k=x then some (g k)else look f g k x
def MapIs(w:World)(b n:Nat)(m:Int→Option Int):Prop:=
 ∃D:DataW Unit,w.ownsMap Tryz.prog 2 (plainElem Tryz.prog 2) b n D∧IsMap D∧
  ∀x,Maps.has D (.int .i64 x)=(m x).isSome∧∀v,m x=some v→D.atKey (.int .i64 x) (.lit (.int .i64 0))= .lit (.int .i64 v)
theorem MapIs.made(w:World):MapIs (w.alloc (.map #[] 0)) w.heap.size 0 (fun _=>none):=
 ⟨.map [],World.ownsMap_made _ _ _ _,isMap_empty,fun x=>⟨rfl,fun v h=>by cases h⟩⟩
theorem MapIs.of_block{w w':World}{b n:Nat}{m:Int→Option Int}(h:MapIs w b n m)(e:w'.heap[b]? =w.heap[b]?):MapIs w' b n m:=by
 obtain⟨D,⟨es,clock,hb,F,hs,hD⟩,r⟩:=h;exact⟨D,⟨es,clock,e.trans hb,F,hs,hD⟩,r⟩
theorem MapIs.setCell{w:World}{b n:Nat}{m:Int→Option Int}(h:MapIs w b n m){a:Addr}(ha:b≠a.block)(v:Value):MapIs (w.setCell a v) b n m:=h.of_block (blk_setCell_other _ _ _ _ ha)
theorem MapIs.lt{w:World}{b n:Nat}{m:Int→Option Int}(h:MapIs w b n m):b<w.heap.size:=by
 obtain⟨D,h1,_⟩:=h;exact h1.lt
theorem MapIs.alloc{w:World}{b n:Nat}{m:Int→Option Int}(h:MapIs w b n m)(o:Obj):MapIs (w.alloc o) b n m:=by
 obtain⟨D,h1,h2,h3⟩:=h;exact⟨D,h1.alloc o,h2,h3⟩
def setAt(m:Int→Option Int)(k v:Int)(x:Int):Option Int:=if k=x then some v else m x
theorem MapIs.put{D:DataW Unit}{m:Int→Option Int}{k v:Int}(h2:IsMap D)
 (h3:∀x,Maps.has D (.int .i64 x)=(m x).isSome∧∀v,m x=some v→D.atKey (.int .i64 x) (.lit (.int .i64 0))= .lit (.int .i64 v)):
 IsMap (D.put (.int .i64 k) (.lit (.int .i64 v)))∧
 ∀x,Maps.has (D.put (.int .i64 k) (.lit (.int .i64 v))) (.int .i64 x)=(setAt m k v x).isSome∧∀u,setAt m k v x=some u→(D.put (.int .i64 k) (.lit (.int .i64 v))).atKey (.int .i64 x) (.lit (.int .i64 0))= .lit (.int .i64 u):=by
 refine⟨h2.put _ _,fun x=>?_⟩;by_cases e:k=x
 ·subst e;refine⟨?_,fun u hu=>?_⟩
  ·rw[has_put_same h2 (by trivial)];simp[setAt]
  ·simp[setAt]at hu;subst hu;exact atKey_put_same h2 (by trivial) _ _
 ·have hne:(Lit.int .i64 x)≠(Lit.int .i64 k):=by simp;exact fun h=>e h.symm
  refine⟨?_,fun u hu=>?_⟩
  ·rw[has_put_other hne];simp[setAt,e];exact(h3 x).1
  ·simp[setAt,e]at hu;rw[atKey_put_other hne];exact(h3 x).2 u hu
theorem look_setAt(f g:Nat→Int)(k:Nat):setAt (look f g k) (f k) (g k)=look f g (k+1):=by
 funext x;rfl
theorem grown_cell{w w':World}{b:Nat}(hg:w.grownBy w' (some b)){k o:Nat}(hk:k<w.heap.size)(hne:k≠b):w'.cell? ⟨k,o,none⟩=w.cell? ⟨k,o,none⟩:=
 World.cell?_of_block (w:=w) (hg.block k hk (fun e=>hne (by simpa using e)))
theorem grown_frozen{w w':World}{b:Nat}(hg:w.grownBy w' (some b)){k o:Nat}(hk:k<w.heap.size)(hne:k≠b):w'.frozen? ⟨k,o,none⟩=w.frozen? ⟨k,o,none⟩:=
 World.frozen?_of_block (w:=w) (hg.block k hk (fun e=>hne (by simpa using e)))
theorem MapIs.below{w w':World}{b n:Nat}{m:Int→Option Int}(h:MapIs w b n m)(hb:Below w.heap.size w w'):MapIs w' b n m:=h.of_block (hb.block b h.lt)
theorem wf_of_le{x:Int}(h0: -9223372036854775808≤x)(h1:x≤9223372036854775807):(Lit.int .i64 x).wf=true:=WalkArith.wf_i64 ⟨h0,h1⟩
theorem wf_bounds{x:Int}(h:(Lit.int .i64 x).wf=true): -9223372036854775808≤x∧x≤9223372036854775807:=by
 simp only[Lit.wf,Bool.and_eq_true,decide_eq_true_eq]at h;have e1:IntKind.i64.min= -9223372036854775808:=rfl;have e2:IntKind.i64.max=9223372036854775807:=rfl;omega
theorem MapIs.look{w:World}{b n:Nat}{m:Int→Option Int}{x:Int}(h:MapIs w b n m)(hx:(Lit.int .i64 x).wf=true):
 (Instr.lookup 89 (.map (some b)) (.int .i64 x) false).run Tryz.prog w= .ok (.int .i64 ((m x).getD 0)) w:=by
 obtain⟨D,hown,hD,hall⟩:=h;obtain⟨c,hrun,hat,_⟩:=hown.lookup_int keyed2 Tryz.underlying89 Tryz.underlying2 (zero2 _) (keyOf_int_mk Tryz.underlying2 hx);obtain⟨h1,h2⟩:=hall x;rw[hrun];cases hm:m x with
 |none=>
  have:Maps.has D (.int .i64 x)=false:=by rw[h1,hm];rfl
  rw[atKey_of_not_has this]at hat;simp at hat;simp[←hat]
 |some v=>
  have:=(h2 v hm).symm.trans hat;simp at this;simp[this]
def madeOf(n:Nat)(T:Nat→ThrV)(x:Int):Int:=(look (fun i=>(T i).id) (fun i=>(T i).made) n x).getD 0
def numAt(n:Nat)(T:Nat→ThrV)(id:Int):Bool:=decide (1≤id%1000)&&decide (id%1000≤madeOf n T (id/1000))
def numsOk(n:Nat)(T:Nat→ThrV)(m:Nat)(O:Nat→ObjV):Bool:=(List.range (m-1)).all (fun i=>numAt n T (O (i+1)).id)
theorem thrsOk_out{n:Nat}{T:Nat→ThrV}(h:thrsOk n T=true):1≤n∧n≤9∧∀i,i<n→thrAt T i=true:=by
 simp only[thrsOk,Bool.and_eq_true,decide_eq_true_eq]at h;exact⟨h.1.1,h.1.2,all_out h.2⟩
theorem thrAt_ok{T:Nat→ThrV}{i:Nat}(h:thrAt T i=true):thrOkV (T i)=true:=by
 simp only[thrAt,Bool.and_eq_true]at h;exact h.1
theorem thrOk_made{t:ThrV}(h:thrOkV t=true):0≤t.made∧t.made≤30:=by
 unfold thrOkV thrOk at h;simp only[Bool.and_eq_true]at h;exact inB_iff.1 (by simp_all)
theorem objsOk_out{n:Nat}{O:Nat→ObjV}(h:objsOk n O=true):1≤n∧n≤271∧(∀i,i<n→objAt O i=true)∧rootB (O 0)=true:=by
 simp only[objsOk,Bool.and_eq_true,decide_eq_true_eq]at h;exact⟨h.1.1.1,h.1.1.2,all_out h.1.2,h.2⟩
theorem objsOk_rises{n:Nat}{O:Nat→ObjV}(h:objsOk n O=true):Rises (fun i=>(O i).id) n:=by
 obtain⟨_,_,ha,_⟩:=objsOk_out h;intro i j hij;induction j with
 |zero=>omega
 |succ j ih=>
  intro hj;have h1:=ha (j+1) hj;simp[objAt]at h1;by_cases e:i=j
  ·subst e;exact h1.2
  ·have:=ih (by omega) (by omega);simp only at this ⊢;omega
theorem objsOk_root{n:Nat}{O:Nat→ObjV}(h:objsOk n O=true):(O 0).id=1∧(O 0).kind=3∧(O 0).up=0:=by
 obtain⟨_,_,_,hr⟩:=objsOk_out h;simp only[rootB,Bool.and_eq_true,beq_iff_eq]at hr;exact⟨hr.1.1,hr.1.2,hr.2⟩
theorem objsOk_pos{n:Nat}{O:Nat→ObjV}(h:objsOk n O=true):∀i,i<n→1≤(O i).id:=by
 intro i hi;have hr:=(objsOk_root h).1;by_cases e:i=0
 ·subst e;omega
 ·have:=objsOk_rises h 0 i (by omega) hi;simp only at this;omega
theorem numbersOk_any(k:KerV)(w:World)(hk:k.at w)(hcap:k.on≤k.ok)(h1:thrsOk k.tn k.T=true)(h2:objsOk k.on k.O=true)(hw:∀i,i<k.on→(Lit.int .i64 (k.O i).id).wf=true):
 Calls Tryz.prog 61 #[k.val] w fun e w'=>e= .returned (.bool (numsOk k.tn k.T k.on k.O))∧Below w.heap.size w w':=by
 have hmm:=@run_makeMap Tryz.prog;obtain⟨ta,tn,tk,T,oa,on,ok,O⟩:=k;obtain⟨_,_,hT,hO⟩:=hk;unfold KerV.val;simp only at h1 h2 hw hT hO hcap ⊢;obtain⟨tn1,tn9,tall⟩:=thrsOk_out h1;obtain⟨on1,on2,_,_⟩:=objsOk_out h2;have HT:=hid hT;have HO:=hid hO;obtain⟨tb,toff,rfl,_,_⟩:=hT (by omega);obtain⟨ob,ooff,rfl,_,_⟩:=hO (by omega);have HP:=hid (objsOk_pos h2);have HW:=hid hw;have HA:=hid tall;clear h1 h2 hw tall hT hO;have hb0:=(Below.refl _ w).alloc (Nat.le_refl _) (.cells #[.slice (some ⟨tb,toff,none⟩) tn tk,.slice (some ⟨ob,ooff,none⟩) on ok] 27);have A0:=Blk.new w (.cells #[.slice (some ⟨tb,toff,none⟩) tn tk,.slice (some ⟨ob,ooff,none⟩) on ok] 27);have hb1:=then_ hb0 ((Below.refl _ _).alloc (Nat.le_refl _) (.map #[] 0));have A1:=A0.alloc (.map #[] 0);have M0:=MapIs.made (w.alloc (.cells #[.slice (some ⟨tb,toff,none⟩) tn tk,.slice (some ⟨ob,ooff,none⟩) on ok] 27));go_enter Tryz.func61,Tryz.ntmps61
 go_wp2;generalize hW:((w.alloc (Obj.cells #[.slice (some ⟨tb,toff,none⟩) tn tk,.slice (some ⟨ob,ooff,none⟩) on ok] 27)).alloc (Obj.map #[] 0))=W at *;have M1:MapIs W (w.heap.size+1) 0 (look (fun i=>(T i).id) (fun i=>(T i).made) 0):=by simpa[look]using M0
 clear M0 hb0 A0 hmm hW;go_loopw [13] (fun i wr=>∃j:Nat,j≤tn∧i= .int .i64 j∧MapIs wr (w.heap.size+1) j (look (fun i=>(T i).id) (fun i=>(T i).made) j)∧Blk wr w.heap.size (.cells #[.slice (some ⟨tb,toff,none⟩) tn tk,.slice (some ⟨ob,ooff,none⟩) on ok] 27)∧Below w.heap.size w wr) (fun i _=>tn-(intOf i).toNat)
 case atStart=>exact⟨0,Nat.zero_le _,rfl,M1,A1,hb1⟩
 case round=>
  obtain⟨j,hj,rfl,HM,A,hB⟩:=hrel;clear M1 A1 hb1;by_cases hlt:j<tn
  ·obtain⟨_,_,ea,hlt0,hcc⟩:=HT.out.below hB (by omega);cases ea;obtain⟨⟨q0,q1,q2,q3,q4,q5,q6⟩,ht⟩:=hcc j hlt;have i1:(j:Int)<(tn:Int):=(by omega);have t1:=thrAt_ok (HA.out j hlt);have hkey:keyOf Tryz.prog 2 (.int .i64 (T j).id)=some (.int .i64 (T j).id):=keyOf_int_mk Tryz.underlying2 (wf_of_le (by have:=thrOk_id t1;omega) (by have:=thrOk_id t1;omega));have W2:Hid ((Lit.int .i64 (T j).made).wf=true):=wf_of_le (by have:=thrOk_made t1;omega) (by have:=thrOk_made t1;omega);have hlm:=HM.lt;obtain⟨D,hown,hD,hm⟩:=HM;simp only[CatL.val,IntL.val]at q2 q4 q5;clear hcc ht t1;go_wp2_with(at_mapUpdate;refine wpList_mapUpdate_own _ rfl _ _ _ 89 rfl 2 2 keyed2 Tryz.underlying89 _ (w.heap.size+1) j _ rfl (hown.alloc _) (by unfold maxLen;omega) _ _ _ rfl rfl hkey _ [] (plainElem_int Tryz.underlying2 W2.out) ?_;intro w1 hown1 hgrow1)
   have hm1:=MapIs.put (k:=(T j).id) (v:=(T j).made) hD hm;rw[look_setAt (fun i=>(T i).id) (fun i=>(T i).made) j]at hm1;have A3:=A.alloc (.cells #[.int .i64 (T j).id,.int .i64 (T j).b1,.slice (T j).c1.a (T j).c1.n (T j).c1.k,.int .i64 (T j).b2,.slice (T j).c2.a (T j).c2.n (T j).c2.k,.slice (T j).own.a (T j).own.n (T j).own.k,.int .i64 (T j).made] 75);refine⟨⟨j+1,by omega,by go_num,⟨_,hown1,hm1.1,hm1.2⟩,?_,?_⟩,by simp[intOf];omega⟩
   ·exact(hgrow1.block _ A3.lt (by simp)).trans A3
   ·exact(hB.alloc hB.size _).grown hgrow1 (by simp;omega) (fun i hi=>by cases hi;omega)
  ·have e:j=tn:=(by omega);subst e;have i1:¬(j:Int)<(j:Int):=(by omega);obtain⟨y0,y1⟩:=A.two;have c1:(on:Int)≤(ok:Int):=(by omega);have c2:(1:Int)≤(on:Int):=(by omega);clear HT HA y0;by_cases hok:ok=1
   ·obtain rfl:on=1:=by omega
    subst hok;go_wp2;go_loopw [27] (fun i wr'=>i= .int .i64 0∧Below w.heap.size w wr') (fun i _=>0)
    case atStart=>exact⟨rfl,hB⟩
    case round=>
     obtain⟨rfl,hB'⟩:=hrel;go_wp2;go_ret;exact⟨ret_bool (by simp[numsOk]),hB'⟩
   ·go_wp2;go_loopw [27] (fun i wr'=>∃q:Nat,q≤on-1∧i= .int .i64 q∧Hid (∀p,p<q→numAt j T (O (p+1)).id=true)∧MapIs wr' (w.heap.size+1) j (look (fun i=>(T i).id) (fun i=>(T i).made) j)∧Below w.heap.size w wr') (fun i _=>on-1-(intOf i).toNat)
    case atStart=>exact⟨0,Nat.zero_le _,rfl,hid (fun p hp=>by omega),HM,hB⟩
    case round=>
    obtain⟨q,hq,rfl,HN,HM',hB'⟩:=hrel;clear y1 A hB HM;by_cases hlt2:q<on-1
    ·obtain⟨_,_,ea,hlt0,hcc⟩:=HO.out.below hB' (by omega);cases ea;obtain⟨⟨q0,q1,q2,q3,q4,q5,q6,q7,q8,q9⟩,ht⟩:=hcc (q+1) (by omega);have ei:ooff+(q+1)*10=ooff+10+q*10:=(by omega);rw[ei]at q0 q1 q2 q3 q4 q5 q6 q7 q8 q9;have i2:(q:Int)<((on-1:Nat):Int):=(by omega);have hp:=HP.out (q+1) (by omega);simp only[CatL.val,IntL.val,StrL.val]at q4 q6 q7 q9;have hww:=HW.out (q+1) (by omega);have hwb:=wf_bounds hww;have ed:wrap64 ((O (q+1)).id.tdiv 1000)=(O (q+1)).id/1000:=by
      rw[Int.tdiv_eq_ediv_of_nonneg (by omega)];unfold wrap64;omega
     have LK:=(HM'.alloc (.cells #[.int .i64 (O (q+1)).id,.int .i64 (O (q+1)).kind,.int .i64 (O (q+1)).up,.int .i64 (O (q+1)).b1,.slice (O (q+1)).c1.a (O (q+1)).c1.n (O (q+1)).c1.k,.string (O (q+1)).data,.slice (O (q+1)).items.a (O (q+1)).items.n (O (q+1)).items.k,.slice (O (q+1)).own.a (O (q+1)).own.n (O (q+1)).own.k,.int .i64 (O (q+1)).b2,.slice (O (q+1)).c2.a (O (q+1)).c2.n (O (q+1)).c2.k] 42)).look (x:=(O (q+1)).id/1000) (wf_of_le (by omega) (by omega));have em:((look (fun i=>(T i).id) (fun i=>(T i).made) j ((O (q+1)).id/1000)).getD 0)=madeOf j T ((O (q+1)).id/1000):=rfl;rw[em]at LK;have HMa:=HM'.alloc (.cells #[.int .i64 (O (q+1)).id,.int .i64 (O (q+1)).kind,.int .i64 (O (q+1)).up,.int .i64 (O (q+1)).b1,.slice (O (q+1)).c1.a (O (q+1)).c1.n (O (q+1)).c1.k,.string (O (q+1)).data,.slice (O (q+1)).items.a (O (q+1)).items.n (O (q+1)).items.k,.slice (O (q+1)).own.a (O (q+1)).own.n (O (q+1)).own.k,.int .i64 (O (q+1)).b2,.slice (O (q+1)).c2.a (O (q+1)).c2.n (O (q+1)).c2.k] 42);clear hcc ht ei em hww hwb;go_wp2
     ·go_ret;have t1:madeOf j T ((O (q+1)).id/1000)<(O (q+1)).id%1000:=(by omega);refine⟨ret_bool ?_,hB'.alloc hB'.size _⟩;rw[numsOk,all_at hlt2];have:decide ((O (q+1)).id%1000≤madeOf j T ((O (q+1)).id/1000))=false:=(by simp;omega);simp[numAt,this]
     ·have t1:(O (q+1)).id%1000≤madeOf j T ((O (q+1)).id/1000):=(by omega);have t0:1≤(O (q+1)).id%1000:=(by assumption);refine⟨⟨q+1,by omega,by go_num,hid (fun p hp=>?_),HMa,hB'.alloc hB'.size _⟩,by simp[intOf];omega⟩;by_cases e:p=q
      ·subst e;simp[numAt,t0,t1]
      ·exact HN.out p (by omega)
     ·go_ret;have t1:(O (q+1)).id%1000<1:=(by assumption);refine⟨ret_bool ?_,hB'.alloc hB'.size _⟩;rw[numsOk,all_at hlt2];have:decide (1≤(O (q+1)).id%1000)=false:=(by simp;omega);simp[numAt,this]
    ·have e:q=on-1:=(by omega);subst e;go_wp2;go_ret;exact⟨ret_bool (by rw[numsOk,all_yes HN.out]),hB'⟩
open Go
def idxI:Option Nat→Int
 |none=> -1
 |some j=>j
theorem findI_first{ids:Nat→Int}{n k:Nat}{x:Int}(hk:k<n)(he:ids k=x)(h:∀j,j<k→ids j≠x):findI ids n x=some k:=by
 unfold findI;rw[List.find?_range_eq_some];exact⟨by simpa using he,List.mem_range.2 hk,fun j hj=>by simpa using h j hj⟩
theorem findI_no{ids:Nat→Int}{n:Nat}{x:Int}(h:∀j,j<n→ids j≠x):findI ids n x=none:=by
 unfold findI;rw[List.find?_eq_none];intro j hj;simpa using h j (List.mem_range.1 hj)
theorem l3Find_any(k:KerV)(x:Int)(w:World)(hk:k.at w):
 Calls Tryz.prog 48 #[k.val,.int .i64 x] w fun e w'=>e= .returned (.int .i64 (idxI (findI (fun i=>(k.O i).id) k.on x)))∧Below w.heap.size w w':=by
 have hb0:=(Below.refl _ w).alloc (Nat.le_refl _) (.cells #[.slice k.ta k.tn k.tk,.slice k.oa k.on k.ok] 27);have A0:=Blk.new w (.cells #[.slice k.ta k.tn k.tk,.slice k.oa k.on k.ok] 27);have HT:=hid (hk.below hb0);have hn:=hk.2.1;unfold maxLen at hn;unfold KerV.val;obtain⟨x0,x1⟩:=A0.two;clear hk A0;go_enter Tryz.func48,Tryz.ntmps48
 go_wp2;generalize w.alloc (.cells #[.slice k.ta k.tn k.tk,.slice k.oa k.on k.ok] 27)=W at *;go_loop [5] (fun i=>∃q:Nat,q≤k.on∧i= .int .i64 q∧Hid (∀j,j<q→(k.O j).id≠x)) (fun i=>k.on-(intOf i).toNat)
 case atStart=>exact⟨0,Nat.zero_le _,rfl,hid (fun j hj=>by omega)⟩
 case round=>
  obtain⟨q,hq,rfl,HA⟩:=hrel;by_cases hlt:q<k.on
  ·obtain⟨b,off,ea,_,hcc⟩:=HT.out.2.2.2 (by omega);have q0:=(hcc q hlt).1.c0;have i1:(q:Int)<(k.on:Int):=(by omega);rw[ea]at x1;clear hcc ea;by_cases e:(k.O q).id=x
   ·have HF:=hid (findI_first (ids:=fun i=>(k.O i).id) hlt e HA.out);have e':((k.O q).id==x)=true:=(by simpa using e);clear e HA;go_wp2;go_ret;exact⟨ret_int (by rw[HF.out];rfl),hb0⟩
   ·have e':((k.O q).id==x)=false:=(by simpa using e);have HA2:Hid (∀j,j<q+1→(k.O j).id≠x):=hid (fun j hj=>by
     by_cases ej:j=q
     ·subst ej;exact e
     ·exact HA.out j (by omega))
    clear e HA;go_wp2;exact⟨⟨q+1,by omega,by go_num,HA2⟩,by simp[intOf];omega⟩
  ·have i1:¬(q:Int)<(k.on:Int):=(by omega);have HF:=hid (findI_no (ids:=fun i=>(k.O i).id) (n:=k.on) (x:=x) (fun j hj=>HA.out j (by omega)));clear HA;go_wp2;go_ret;exact⟨ret_int (by rw[HF.out];rfl),hb0⟩
theorem l3Thread_any(k:KerV)(x:Int)(w:World)(hk:k.at w):
 Calls Tryz.prog 47 #[k.val,.int .i64 x] w fun e w'=>e= .returned (.int .i64 (idxI (findI (fun i=>(k.T i).id) k.tn x)))∧Below w.heap.size w w':=by
 have hb0:=(Below.refl _ w).alloc (Nat.le_refl _) (.cells #[.slice k.ta k.tn k.tk,.slice k.oa k.on k.ok] 27);have A0:=Blk.new w (.cells #[.slice k.ta k.tn k.tk,.slice k.oa k.on k.ok] 27);have HT:=hid (hk.below hb0);have hn:=hk.1;unfold maxLen at hn;unfold KerV.val;obtain⟨x0,x1⟩:=A0.two;clear hk A0;go_enter Tryz.func47,Tryz.ntmps47
 go_wp2;generalize w.alloc (.cells #[.slice k.ta k.tn k.tk,.slice k.oa k.on k.ok] 27)=W at *;go_loop [5] (fun i=>∃q:Nat,q≤k.tn∧i= .int .i64 q∧Hid (∀j,j<q→(k.T j).id≠x)) (fun i=>k.tn-(intOf i).toNat)
 case atStart=>exact⟨0,Nat.zero_le _,rfl,hid (fun j hj=>by omega)⟩
 case round=>
  obtain⟨q,hq,rfl,HA⟩:=hrel;by_cases hlt:q<k.tn
  ·obtain⟨b,off,ea,_,hcc⟩:=HT.out.2.2.1 (by omega);have q0:=(hcc q hlt).1.c0;have i1:(q:Int)<(k.tn:Int):=(by omega);rw[ea]at x0;clear hcc ea;by_cases e:(k.T q).id=x
   ·have HF:=hid (findI_first (ids:=fun i=>(k.T i).id) hlt e HA.out);have e':((k.T q).id==x)=true:=(by simpa using e);clear e HA;go_wp2;go_ret;exact⟨ret_int (by rw[HF.out];rfl),hb0⟩
   ·have e':((k.T q).id==x)=false:=(by simpa using e);have HA2:Hid (∀j,j<q+1→(k.T j).id≠x):=hid (fun j hj=>by
     by_cases ej:j=q
     ·subst ej;exact e
     ·exact HA.out j (by omega))
    clear e HA;go_wp2;exact⟨⟨q+1,by omega,by go_num,HA2⟩,by simp[intOf];omega⟩
  ·have i1:¬(q:Int)<(k.tn:Int):=(by omega);have HF:=hid (findI_no (ids:=fun i=>(k.T i).id) (n:=k.tn) (x:=x) (fun j hj=>HA.out j (by omega)));clear HA;go_wp2;go_ret;exact⟨ret_int (by rw[HF.out];rfl),hb0⟩
def boxAt(n:Nat)(O:Nat→ObjV)(x:Int):Bool:=match findI (fun i=>(O i).id) n x with
 |some u=>(O u).kind==3
 |none=>false
def upsOk(n:Nat)(O:Nat→ObjV):Bool:=(List.range (n-1)).all (fun i=>boxAt n O (O (i+1)).up)
def kerOk(k:KerV):Bool:=thrsOk k.tn k.T&&objsOk k.on k.O&&numsOk k.tn k.T k.on k.O&&upsOk k.on k.O&&reachB (fun i=>(k.O i).id) (fun i=>(k.O i).up) k.on
def spAt(k:KerV)(i:Nat):Bool:=objOk (k.O i)&&(if i=0 then rootB (k.O 0)else decide ((k.O (i-1)).id<(k.O i).id)&&numAt k.tn k.T (k.O i).id&&boxAt k.on k.O (k.O i).up)
theorem spAt_all{k:KerV}(h1:1≤k.on)(h2:k.on≤271):(objsOk k.on k.O&&numsOk k.tn k.T k.on k.O&&upsOk k.on k.O)=(List.range k.on).all (spAt k):=by
 rw[Bool.eq_iff_iff];simp only[Bool.and_eq_true];constructor
 ·rintro⟨⟨ho,hn⟩,hu⟩;obtain⟨_,_,ha,hr⟩:=objsOk_out ho;refine all_yes fun i hi=>?_;have hai:=ha i hi;simp only[objAt,Bool.and_eq_true]at hai;simp only[spAt,hai.1,Bool.true_and];by_cases e:i=0
  ·rw[if_pos e];exact hr
  ·rw[if_neg e]at hai ⊢;have e1:i-1+1=i:=(by omega);have h3:=all_out hn (i-1) (by omega);have h4:=all_out hu (i-1) (by omega);simp only[e1]at h3 h4;simp only[hai.2,h3,h4,Bool.and_true]
 ·intro h;have ha:=all_out h;have h0:=ha 0 (by omega);simp only[spAt,if_true,Bool.and_eq_true]at h0;refine⟨⟨?_,?_⟩,?_⟩
  ·have:(List.range k.on).all (objAt k.O)=true:=all_yes fun i hi=>by
    have hi':=ha i hi;simp only[spAt,Bool.and_eq_true]at hi';simp only[objAt,hi'.1,Bool.true_and];by_cases e:i=0
    ·rw[if_pos e];have:=h0.2;simp only[rootB,Bool.and_eq_true,beq_iff_eq]at this;simp[this.1.1]
    ·rw[if_neg e]at hi' ⊢;simp only[Bool.and_eq_true]at hi';exact hi'.2.1.1
   simp only[objsOk,this,h0.2,Bool.and_true,Bool.and_eq_true,decide_eq_true_eq];exact⟨h1,h2⟩
  ·refine all_yes fun i hi=>?_;have hi':=ha (i+1) (by omega);simp only[spAt,Bool.and_eq_true]at hi';rw[if_neg (by omega)]at hi';simp only[Bool.and_eq_true]at hi';exact hi'.2.1.2
  ·refine all_yes fun i hi=>?_;have hi':=ha (i+1) (by omega);simp only[spAt,Bool.and_eq_true]at hi';rw[if_neg (by omega)]at hi';simp only[Bool.and_eq_true]at hi';exact hi'.2.2
theorem kerOk_sp{k:KerV}(ht:thrsOk k.tn k.T=true)(h1:1≤k.on)(h2:k.on≤271):kerOk k=((List.range k.on).all (spAt k)&&reachB (fun i=>(k.O i).id) (fun i=>(k.O i).up) k.on):=by
 rw[kerOk,ht,←spAt_all h1 h2];simp[Bool.and_assoc]
theorem kerOk_thr{k:KerV}(ht:thrsOk k.tn k.T=false):kerOk k=false:=by simp[kerOk,ht]
theorem kerOk_few{k:KerV}(h:¬(1≤k.on∧k.on≤271)):kerOk k=false:=by
 have:objsOk k.on k.O=false:=by
  cases e:objsOk k.on k.O with
  |false=>rfl
  |true=>obtain⟨a,b,_⟩:=objsOk_out e;exact absurd ⟨a,b⟩ h
 simp[kerOk,this]
theorem thr_rises{n:Nat}{T:Nat→ThrV}(h:thrsOk n T=true):Rises (fun i=>(T i).id) n:=by
 obtain⟨_,_,ha⟩:=thrsOk_out h;intro i j hij;induction j with
 |zero=>omega
 |succ j ih=>
  intro hj;have h1:=ha (j+1) hj;simp[thrAt]at h1;by_cases e:i=j
  ·subst e;exact h1.2
  ·have:=ih (by omega) (by omega);simp only at this ⊢;omega
theorem look_find{ids g:Nat→Int}{n:Nat}(h:Rises ids n)(x:Int):look ids g n x=(findI ids n x).map g:=by
 induction n with
 |zero=>rfl
 |succ n ih=>
  have ih':=ih (fun i j hij hj=>h i j hij (by omega));rw[look];split
  ·rename_i e;rw[←e,findI_eq h (Nat.lt_succ_self n)];rfl
  ·rename_i e;rw[ih'];congr 1;cases e1:findI ids n x with
   |none=>
    symm;refine findI_no fun j hj=>?_;by_cases ej:j=n
    ·subst ej;exact e
    ·exact findI_none e1 j (by omega)
   |some j=>
    obtain⟨j1,j2⟩:=findI_some e1;symm;rw[←j2];exact findI_eq h (by omega)
theorem numAt_some{n:Nat}{T:Nat→ThrV}(h:thrsOk n T=true){id:Int}{t:Nat}(e:findI (fun i=>(T i).id) n (id/1000)=some t):numAt n T id=inB (id%1000) 1 (T t).made:=by
 have:madeOf n T (id/1000)=(T t).made:=by
  unfold madeOf;rw[look_find (thr_rises h),e];rfl
 simp[numAt,this,inB]
theorem numAt_none{n:Nat}{T:Nat→ThrV}(h:thrsOk n T=true){id:Int}(e:findI (fun i=>(T i).id) n (id/1000)=none):numAt n T id=false:=by
 have:madeOf n T (id/1000)=0:=by
  unfold madeOf;rw[look_find (thr_rises h),e];rfl
 simp[numAt,this];intro _;omega
theorem sp_pos{k:KerV}{i:Nat}(h:∀j,j<i→spAt k j=true)(h0:0<i)(hl:(k.O (i-1)).id<(k.O i).id):1≤(k.O i).id:=by
 have:∀j,j<i→1≤(k.O j).id:=by
  intro j;induction j with
  |zero=>
   intro hj;have:=h 0 hj;simp only[spAt,if_true,Bool.and_eq_true,rootB,beq_iff_eq]at this;omega
  |succ j ih=>
   intro hj;have h1:=ih (by omega);have:=h (j+1) hj;simp only[spAt,Bool.and_eq_true]at this;rw[if_neg (by omega)]at this;simp only[Bool.and_eq_true,decide_eq_true_eq,Nat.add_sub_cancel]at this;omega
 have:=this (i-1) (by omega);omega
def CatL.same(c d:CatL):Prop:=d.n=c.n∧d.f=c.f∧d.g=c.g
def IntL.same(c d:IntL):Prop:=d.n=c.n∧d.h=c.h
def ThrV.same(t u:ThrV):Prop:=u.id=t.id∧u.b1=t.b1∧t.c1.same u.c1∧u.b2=t.b2∧t.c2.same u.c2∧t.own.same u.own∧u.made=t.made
def CatL.row(w:World)(c:CatL):Prop:=∃b,c.a=some ⟨b,0,none⟩∧w.rowIs b 88 (c.n*2) (pairCell c.f c.g)
def IntL.row(w:World)(c:IntL):Prop:=∃b,c.a=some ⟨b,0,none⟩∧w.rowIs b 2 c.n (fun i=> .int .i64 (c.h i))
def ThrV.row(w:World)(t:ThrV):Prop:=t.c1.row w∧t.c2.row w∧t.own.row w
theorem rowUp{w w':World}{b ty N:Nat}{G:Nat→Value}(h:w.rowIs b ty N G)(hb:Below w.heap.size w w'):w'.rowIs b ty N G:=h.of_block (hb.block b h.lt)
theorem row_ne{w:World}{b b' t t' N N':Nat}{G G':Nat→Value}(h:w.rowIs b t N G)(h':w.rowIs b' t' N' G')(ht:t≠t'):b≠b':=fun e=>by
 subst e;obtain⟨c,e1,_⟩:=h;obtain⟨c',e2,_⟩:=h';rw[e1]at e2;simp only[Option.some.injEq,Obj.cells.injEq]at e2;exact ht e2.2.1
theorem CatL.row.below{w w':World}{c:CatL}(h:c.row w)(hb:Below w.heap.size w w'):c.row w':=by
 obtain⟨b,e,hr⟩:=h;exact⟨b,e,rowUp hr hb⟩
theorem IntL.row.below{w w':World}{c:IntL}(h:c.row w)(hb:Below w.heap.size w w'):c.row w':=by
 obtain⟨b,e,hr⟩:=h;exact⟨b,e,rowUp hr hb⟩
theorem ThrV.row.below{w w':World}{t:ThrV}(h:t.row w)(hb:Below w.heap.size w w'):t.row w':=⟨CatL.row.below h.1 hb,CatL.row.below h.2.1 hb,IntL.row.below h.2.2 hb⟩
theorem ThrV.row.put{w:World}{t:ThrV}{P ty N:Nat}{G:Nat→Value}(h:t.row w)(hP:w.rowIs P ty N G)(h1:ty≠88)(h2:ty≠2)(i:Nat)(v:Value):t.row (w.setCell ⟨P,i,none⟩ v):=by
 obtain⟨⟨b1,e1,r1⟩,⟨b2,e2,r2⟩,⟨b3,e3,r3⟩⟩:=h;exact⟨⟨b1,e1,r1.setOther (row_ne r1 hP h1.symm) v⟩,⟨b2,e2,r2.setOther (row_ne r2 hP h1.symm) v⟩,⟨b3,e3,r3.setOther (row_ne r3 hP h2.symm) v⟩⟩
theorem ThrV.row.at{w:World}{t:ThrV}(h:t.row w)(hs:t.small):t.at w:=by
 obtain⟨⟨b1,e1,r1⟩,⟨b2,e2,r2⟩,⟨b3,e3,r3⟩⟩:=h;refine⟨⟨by unfold maxLen;have:=hs.1;omega,?_⟩,⟨by unfold maxLen;have:=hs.2.1;omega,?_⟩,⟨by unfold maxLen;have:=hs.2.2;omega,?_⟩⟩
 ·rw[e1];exact CatsAt.row r1
 ·rw[e2];exact CatsAt.row r2
 ·rw[e3];exact IntsAt.row r3
structure G7(G:Nat→Value)(o:Nat)(t:ThrV):Prop where
 g0:G o= .int .i64 t.id
 g1:G (o+1)= .int .i64 t.b1
 g2:G (o+2)=t.c1.val
 g3:G (o+3)= .int .i64 t.b2
 g4:G (o+4)=t.c2.val
 g5:G (o+5)=t.own.val
 g6:G (o+6)= .int .i64 t.made
theorem G7.cells{w:World}{b ty N:Nat}{G:Nat→Value}{o:Nat}{t:ThrV}(hr:w.rowIs b ty N G)(h:G7 G o t)(ho:o+7≤N):Cells7 w b o t:=
 ⟨(hr.cell (by omega)).trans (congrArg some h.g0),(hr.cell (by omega)).trans (congrArg some h.g1),(hr.cell (by omega)).trans (congrArg some h.g2),(hr.cell (by omega)).trans (congrArg some h.g3),(hr.cell (by omega)).trans (congrArg some h.g4),(hr.cell (by omega)).trans (congrArg some h.g5),(hr.cell (by omega)).trans (congrArg some h.g6)⟩
theorem Tryz.info75:(Tryz.prog.info? 75).map (fun i=>(i.zero,i.size,i.bytes))=some (some (.agg #[.int .i64 0,.int .i64 0,.slice none 0 0,.int .i64 0,.slice none 0 0,.slice none 0 0,.int .i64 0]),7,104):=by kernel_rfl
theorem Tryz.info9:(Tryz.prog.info? 9).map (fun i=>(i.zero,i.size,i.bytes))=some (some (.string ⟨#[]⟩),1,16):=by kernel_rfl
def StrL.row(w:World)(c:StrL):Prop:=∃b,c.a=some ⟨b,0,none⟩∧w.rowIs b 9 c.n (fun i=> .string (c.f i))
theorem Blk.setAt{W:World}{P t i:Nat}{cs:Array Value}(h:Blk W P (.cells cs t))(v:Value):Blk (W.setCell ⟨P,i,none⟩ v) P (.cells (cs.setIfInBounds i v) t):=by
 unfold Blk at *;simp[World.setCell,Array.getElem?_modify,h]
theorem Blk.warm{W:World}{P t:Nat}{cs:Array Value}(h:Blk W P (.cells cs t))(i:Nat):W.frozen? ⟨P,i,none⟩=false:=by
 unfold Blk at h;simp[World.frozen?,h]
theorem Blk.other{W:World}{P Q i:Nat}{o:Obj}(h:Blk W P o)(hne:Q≠P)(v:Value):Blk (W.setCell ⟨Q,i,none⟩ v) P o:=by
 unfold Blk at *;simp[World.setCell,Array.getElem?_modify,h,hne]
theorem Blk.all10{W:World}{P t:Nat}{z0 z1 z2 z3 z4 z5 z6 z7 z8 z9:Value}(h:Blk W P (.cells #[z0,z1,z2,z3,z4,z5,z6,z7,z8,z9] t))(x0 x1 x2 x3 x4 x5 x6 x7 x8 x9:Value):
 Blk ((((((((((W.setCell ⟨P,0,none⟩ x0).setCell ⟨P,1,none⟩ x1).setCell ⟨P,2,none⟩ x2).setCell ⟨P,3,none⟩ x3).setCell ⟨P,4,none⟩ x4).setCell ⟨P,5,none⟩ x5).setCell ⟨P,6,none⟩ x6).setCell ⟨P,7,none⟩ x7).setCell ⟨P,8,none⟩ x8).setCell ⟨P,9,none⟩ x9) P (.cells #[x0,x1,x2,x3,x4,x5,x6,x7,x8,x9] t):=by
 have h0:Blk _ P (.cells #[x0,z1,z2,z3,z4,z5,z6,z7,z8,z9] t):=h.setAt (i:=0) x0;have h1:Blk _ P (.cells #[x0,x1,z2,z3,z4,z5,z6,z7,z8,z9] t):=h0.setAt (i:=1) x1;have h2:Blk _ P (.cells #[x0,x1,x2,z3,z4,z5,z6,z7,z8,z9] t):=h1.setAt (i:=2) x2;have h3:Blk _ P (.cells #[x0,x1,x2,x3,z4,z5,z6,z7,z8,z9] t):=h2.setAt (i:=3) x3;have h4:Blk _ P (.cells #[x0,x1,x2,x3,x4,z5,z6,z7,z8,z9] t):=h3.setAt (i:=4) x4;have h5:Blk _ P (.cells #[x0,x1,x2,x3,x4,x5,z6,z7,z8,z9] t):=h4.setAt (i:=5) x5;have h6:Blk _ P (.cells #[x0,x1,x2,x3,x4,x5,x6,z7,z8,z9] t):=h5.setAt (i:=6) x6;have h7:Blk _ P (.cells #[x0,x1,x2,x3,x4,x5,x6,x7,z8,z9] t):=h6.setAt (i:=7) x7;have h8:Blk _ P (.cells #[x0,x1,x2,x3,x4,x5,x6,x7,x8,z9] t):=h7.setAt (i:=8) x8;exact h8.setAt (i:=9) x9

def StrL.same(c d:StrL):Prop:=d.n=c.n∧d.f=c.f
def ObjV.same(t u:ObjV):Prop:=u.id=t.id∧u.kind=t.kind∧u.up=t.up∧u.b1=t.b1∧t.c1.same u.c1∧u.data=t.data∧t.items.same u.items∧t.own.same u.own∧u.b2=t.b2∧t.c2.same u.c2
def ObjV.row(w:World)(t:ObjV):Prop:=t.c1.row w∧t.items.row w∧t.own.row w∧t.c2.row w
theorem StrL.row.below{w w':World}{c:StrL}(h:c.row w)(hb:Below w.heap.size w w'):c.row w':=by
 obtain⟨b,e,hr⟩:=h;exact⟨b,e,rowUp hr hb⟩
theorem ObjV.row.below{w w':World}{t:ObjV}(h:t.row w)(hb:Below w.heap.size w w'):t.row w':=⟨CatL.row.below h.1 hb,StrL.row.below h.2.1 hb,IntL.row.below h.2.2.1 hb,CatL.row.below h.2.2.2 hb⟩
theorem ObjV.row.put{w:World}{t:ObjV}{P ty N:Nat}{G:Nat→Value}(h:t.row w)(hP:w.rowIs P ty N G)(h1:ty≠88)(h2:ty≠2)(h3:ty≠9)(i:Nat)(v:Value):t.row (w.setCell ⟨P,i,none⟩ v):=by
 obtain⟨⟨b1,e1,r1⟩,⟨b2,e2,r2⟩,⟨b3,e3,r3⟩,⟨b4,e4,r4⟩⟩:=h;exact⟨⟨b1,e1,r1.setOther (row_ne r1 hP h1.symm) v⟩,⟨b2,e2,r2.setOther (row_ne r2 hP h3.symm) v⟩,⟨b3,e3,r3.setOther (row_ne r3 hP h2.symm) v⟩,⟨b4,e4,r4.setOther (row_ne r4 hP h1.symm) v⟩⟩
structure G10(G:Nat→Value)(o:Nat)(u:ObjV):Prop where
 g0:G (o)= .int .i64 u.id
 g1:G (o+1)= .int .i64 u.kind
 g2:G (o+2)= .int .i64 u.up
 g3:G (o+3)= .int .i64 u.b1
 g4:G (o+4)=u.c1.val
 g5:G (o+5)= .string u.data
 g6:G (o+6)=u.items.val
 g7:G (o+7)=u.own.val
 g8:G (o+8)= .int .i64 u.b2
 g9:G (o+9)=u.c2.val
theorem Tryz.info42:(Tryz.prog.info? 42).map (fun i=>(i.zero,i.size,i.bytes))=some (some (.agg #[.int .i64 0,.int .i64 0,.int .i64 0,.int .i64 0,.slice none 0 0,.string ⟨#[]⟩,.slice none 0 0,.slice none 0 0,.int .i64 0,.slice none 0 0]),10,152):=by kernel_rfl
def ThrRow(w:World)(a:Option Addr)(n:Nat)(T:Nat→ThrV):Prop:=∃b G,a=some ⟨b,0,none⟩∧w.rowIs b 75 (n*7) G∧∀j,j<n→G7 G (j*7) (T j)∧(T j).row w
def ObjRow(w:World)(a:Option Addr)(n:Nat)(T:Nat→ObjV):Prop:=∃b G,a=some ⟨b,0,none⟩∧w.rowIs b 42 (n*10) G∧∀j,j<n→G10 G (j*10) (T j)∧(T j).row w
theorem ThrRow.below{w w':World}{a:Option Addr}{n:Nat}{T:Nat→ThrV}(h:ThrRow w a n T)(hb:Below w.heap.size w w'):ThrRow w' a n T:=by
 obtain⟨b,G,e,hr,hj⟩:=h;exact⟨b,G,e,rowUp hr hb,fun j h=>⟨(hj j h).1,ThrV.row.below (hj j h).2 hb⟩⟩
theorem ObjRow.below{w w':World}{a:Option Addr}{n:Nat}{T:Nat→ObjV}(h:ObjRow w a n T)(hb:Below w.heap.size w w'):ObjRow w' a n T:=by
 obtain⟨b,G,e,hr,hj⟩:=h;exact⟨b,G,e,rowUp hr hb,fun j h=>⟨(hj j h).1,ObjV.row.below (hj j h).2 hb⟩⟩
theorem ThrRow.put{w:World}{a:Option Addr}{n:Nat}{T:Nat→ThrV}{P ty N:Nat}{G:Nat→Value}(h:ThrRow w a n T)(hP:w.rowIs P ty N G)(h1:ty≠88)(h2:ty≠2)(h4:ty≠75)(i:Nat)(v:Value):ThrRow (w.setCell ⟨P,i,none⟩ v) a n T:=by
 obtain⟨b,G',e,hr,hj⟩:=h;exact⟨b,G',e,hr.setOther (row_ne hr hP h4.symm) v,fun j h=>⟨(hj j h).1,ThrV.row.put (hj j h).2 hP h1 h2 i v⟩⟩
theorem ObjRow.put{w:World}{a:Option Addr}{n:Nat}{T:Nat→ObjV}{P ty N:Nat}{G:Nat→Value}(h:ObjRow w a n T)(hP:w.rowIs P ty N G)(h1:ty≠88)(h2:ty≠2)(h3:ty≠9)(h4:ty≠42)(i:Nat)(v:Value):ObjRow (w.setCell ⟨P,i,none⟩ v) a n T:=by
 obtain⟨b,G',e,hr,hj⟩:=h;exact⟨b,G',e,hr.setOther (row_ne hr hP h4.symm) v,fun j h=>⟨(hj j h).1,ObjV.row.put (hj j h).2 hP h1 h2 h3 i v⟩⟩
theorem Blk.row{W:World}{P t:Nat}{cs:Array Value}(h:Blk W P (.cells cs t)):W.rowIs P t cs.size (fun i=>cs[i]?.getD undef):=⟨cs,h,rfl,fun i hi=>by simp[hi]⟩
def KerV.same(k l:KerV):Prop:=l.tn=k.tn∧(∀j,j<k.tn→(k.T j).same (l.T j))∧l.on=k.on∧(∀j,j<k.on→(k.O j).same (l.O j))
def KerV.row(w:World)(k:KerV):Prop:=ThrRow w k.ta k.tn k.T∧ObjRow w k.oa k.on k.O
end Go.Proofs.YtbacmamplkdgaaaGreatDoor
