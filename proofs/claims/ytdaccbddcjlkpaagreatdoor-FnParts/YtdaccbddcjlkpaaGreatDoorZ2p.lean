import Derived.Maps.Own
import Derived.Maps.OwnSet
import Derived.Deep.RegionLaw
import Derived.Test.YtdaccbddcjlkpaaGreatDoorZ1p
set_option maxRecDepth 100000
set_option maxHeartbeats 4000000
namespace Go.Proofs.YtdaccbddcjlkpaaGreatDoor
open Go.RowKit Go.Deep Go.Maps Go.Proofs.Tryz
variable {w w':World}{b n k o:Nat}
theorem Ip:Keyed prog 2:=int_keyed underlying2
theorem cW(w:World):(zeroValue 2).run prog w= .ok (.int .i64 0) w:=by kernel_rfl
def look(f g:Nat->Int):Nat->Int->Option Int
 |0,_=>none
 |k+1,x=>if f k=x then some (g k)else look f g k x
def Bu(w:World)(b n:Nat)(m:Int->Option Int):Prop:=
 ∃D:DataW Unit,w.ownsMap prog 2 (plainElem prog 2) b n D/\IsMap D/\
  ∀x,Maps.has D (.int .i64 x)=(m x).isSome/\∀v,m x=some v->D.atKey (.int .i64 x) (.lit (.int .i64 0))= .lit (.int .i64 v)
theorem Bu.made(w:World):Bu (w.alloc (.map #[] 0)) w 0 (fun _=>none):=
 ⟨.map [],World.ownsMap_made _ _ _ _,isMap_empty,fun x=>⟨rfl,fun v h=>by cases h⟩⟩
theorem Bu.of_block{m:Int->Option Int}(h:Bu w b n m)(e:w'.heap[b]? =w.heap[b]?):Bu w' b n m:=by
 obtain⟨D,⟨es,clock,hb,F,hs,hD⟩,r⟩:=h;exact⟨D,⟨es,clock,e.trans hb,F,hs,hD⟩,r⟩
theorem Bu.setCell{m:Int->Option Int}(h:Bu w b n m){a:Addr}(ha:b≠a.block)(v:Value):Bu (w.setCell a v) b n m:=h.of_block (blk_setCell_other _ _ _ _ ha)
theorem Bu.lt{m:Int->Option Int}(h:Bu w b n m):b<w.heap.size:=by
 obtain⟨D,h1,_⟩:=h;exact h1.lt
theorem Bu.alloc{m:Int->Option Int}(h:Bu w b n m)(o:Obj):Bu (w.alloc o) b n m:=by
 obtain⟨D,h1,h2,h3⟩:=h;exact⟨D,h1.alloc o,h2,h3⟩
def jB(m:Int->Option Int)(k v:Int)(x:Int):Option Int:=if k=x then some v else m x
theorem Bu.put{D:DataW Unit}{m:Int->Option Int}{k v:Int}(h2:IsMap D)
 (h3:∀x,Maps.has D (.int .i64 x)=(m x).isSome/\∀v,m x=some v->D.atKey (.int .i64 x) (.lit (.int .i64 0))= .lit (.int .i64 v)):
 IsMap (D.put (.int .i64 k) (.lit (.int .i64 v)))/\
 ∀x,Maps.has (D.put (.int .i64 k) (.lit (.int .i64 v))) (.int .i64 x)=(jB m k v x).isSome/\∀u,jB m k v x=some u->(D.put (.int .i64 k) (.lit (.int .i64 v))).atKey (.int .i64 x) (.lit (.int .i64 0))= .lit (.int .i64 u):=by
 refine⟨h2.put _ _,fun x=>?_⟩;by_cases e:k=x
 ·subst e;refine⟨?_,fun u hu=>?_⟩
  ·rw[has_put_same h2 (by trivial)];simp[jB]
  ·simp[jB]at hu;subst hu;exact atKey_put_same h2 (by trivial) _ _
 ·have hne:(Lit.int .i64 x)≠(Lit.int .i64 k):=by simp;exact fun h=>e h.symm
  refine⟨?_,fun u hu=>?_⟩
  ·rw[has_put_other hne];simp[jB,e];exact(h3 x).1
  ·simp[jB,e]at hu;rw[atKey_put_other hne];exact(h3 x).2 u hu
theorem OV(f g:Nat->Int)(k:Nat):jB (look f g k) (f k) (g k)=look f g (k+1):=by
 funext x;rfl
theorem Ct(hg:w.grownBy w' (some b))(hk:k<w.heap.size)(hne:k≠b):w'.cell? ⟨k,o,none⟩=w.cell? ⟨k,o,none⟩:=
 World.cell?_of_block (w:=w) (hg.block k hk (fun e=>hne (by simpa using e)))
theorem Ha(hg:w.grownBy w' (some b))(hk:k<w.heap.size)(hne:k≠b):w'.frozen? ⟨k,o,none⟩=w.frozen? ⟨k,o,none⟩:=
 World.frozen?_of_block (w:=w) (hg.block k hk (fun e=>hne (by simpa using e)))
open _root_.Bool renaming and_eq_true→qz
open _root_.Nat renaming zero_le→qy
variable {w:World}{b n:Nat}{x:Int}
theorem Bu.below{w':World}{m:Int->Option Int}(h:Bu w b n m)(hb:Below w w w'):Bu w' b n m:=h.of_block (hb.block b h.lt)
theorem Iz(h0: -9223372036854775808<=x)(h1:x<=9223372036854775807):(Lit.int .i64 x).wf=true:=WalkArith.wf_i64 ⟨h0,h1⟩
theorem Ro(h:(Lit.int .i64 x).wf=true): -9223372036854775808<=x/\x<=9223372036854775807:=by
 simp only[Lit.wf,qz,decide_eq_true_eq]at h;have e1:IntKind.i64.min= -9223372036854775808:=rfl;have e2:IntKind.i64.max=9223372036854775807:=rfl;omega
theorem Bu.look{m:Int->Option Int}(h:Bu w b n m)(hx:(Lit.int .i64 x).wf=true):
 (Instr.lookup 108 (.map (some b)) (.int .i64 x) false).run prog w= .ok (.int .i64 ((m x).getD 0)) w:=by
 obtain⟨D,hown,hD,hall⟩:=h;obtain⟨c,hrun,hat,_⟩:=hown.lookup_int Ip underlying108 underlying2 (cW _) (keyOf_int_mk underlying2 hx);obtain⟨h1,h2⟩:=hall x;rw[hrun];cases hm:m x with
 |none=>
  have:Maps.has D (.int .i64 x)=false:=by rw[h1,hm];rfl
  rw[atKey_of_not_has this]at hat;simp at hat;simp[<-hat]
 |some v=>
  have:=(h2 v hm).symm.trans hat;simp at this;simp[this]
def madeOf(n:Nat)(T:Nat->Ae)(x:Int):Int:=(look (fun i=>(T i).id) (fun i=>(T i).made) n x).getD 0
def FZ(n:Nat)(T:Nat->Ae)(id:Int):Bool:=decide (1<=id%1000)&&decide (id%1000<=madeOf n T (id/1000))
def G5(n:Nat)(T:Nat->Ae)(m:Nat)(O:Nat->Ab):Bool:=(List.range (m-1)).all (fun i=>FZ n T (O (i+1)).id)
theorem CZ{T:Nat->Ae}(h:BH n T=true):1<=n/\n<=9/\∀i,i<n->Ej T i=true:=by
 simp only[BH,qz,decide_eq_true_eq]at h;exact⟨h.1.1,h.1.2,FI h.2⟩
theorem OH{T:Nat->Ae}{i:Nat}(h:Ej T i=true):C8 (T i)=true:=by
 simp only[Ej,qz]at h;exact h.1
theorem KM{t:Ae}(h:C8 t=true):0<=t.made/\t.made<=30:=by
 unfold C8 Dz at h;simp only[qz]at h;exact CY.1 (by simp_all)
theorem Cv{O:Nat->Ab}(h:Cr n O=true):1<=n/\n<=271/\(∀i,i<n->Gd O i=true)/\Gm (O 0)=true:=by
 simp only[Cr,qz,decide_eq_true_eq]at h;exact⟨h.1.1.1,h.1.1.2,FI h.1.2,h.2⟩
theorem Ch{O:Nat->Ab}(h:Cr n O=true):DK (fun i=>(O i).id) n:=by
 obtain⟨_,_,ha,_⟩:=Cv h;intro i j hij;induction j with
 |zero=>omega
 |succ j ih=>
  intro hj;have h1:=ha (j+1) hj;simp[Gd]at h1;by_cases e:i=j
  ·subst e;exact h1.2
  ·have:=ih qQ qQ;simp only at this ⊢;omega
theorem Cy{O:Nat->Ab}(h:Cr n O=true):(O 0).id=1/\(O 0).kind=3/\(O 0).up=0:=by
 obtain⟨_,_,_,hr⟩:=Cv h;simp only[Gm,qz,beq_iff_eq]at hr;exact⟨hr.1.1,hr.1.2,hr.2⟩
theorem Et{O:Nat->Ab}(h:Cr n O=true):∀i,i<n->1<=(O i).id:=by
 intro i hi;have hr:=(Cy h).1;by_cases e:i=0
 ·subst e;omega
 ·have:=Ch h 0 i qQ hi;simp only at this;omega
theorem Qd(k:Av)(w:World)(hk:k.at w)(hcap:k.on<=k.ok)(h1:BH k.tn k.T=true)(h2:Cr k.on k.O=true)(hw:∀i,i<k.on->(Lit.int .i64 (k.O i).id).wf=true):
 Calls prog 32 #[k.val] w fun e w'=>e= .returned (.bool (G5 k.tn k.T k.on k.O))/\Below w w w':=by
 have hmm:=@run_makeMap prog;obtain⟨ta,tn,tk,T,oa,on,ok,O⟩:=k;obtain⟨_,_,hT,hO⟩:=hk;unfold Av.val;simp only at h1 h2 hw hT hO hcap ⊢;obtain⟨tn1,tn9,tall⟩:=CZ h1;obtain⟨on1,on2,_,_⟩:=Cv h2;have HT:=qC hT;have HO:=qC hO;obtain⟨tb,toff,rfl,_,_⟩:=hT qQ;obtain⟨ob,ooff,rfl,_,_⟩:=hO qQ;have HP:=qC (Et h2);have HW:=qC hw;have HA:=qC tall;clear h1 h2 hw tall hT hO;have n2:Na #[.slice (some ⟨tb,toff,none⟩) tn tk,.slice (some ⟨ob,ooff,none⟩) on ok]:=⟨⟩;have hb0:=Bg w (.cells n2 27);have A0:=Ag.new w (.cells n2 27);have hb1:=Af hb0 (Bg _ (.map #[] 0));have A1:=A0.alloc (.map #[] 0);have M0:=Bu.made (w.alloc (.cells n2 27));go_enter func32,ntmps32
 go_wp2;generalize hW:((w.alloc (Obj.cells n2 27)).alloc (Obj.map #[] 0))=W at *;have M1:Bu W (w.heap.size+1) 0 (look (fun i=>(T i).id) (fun i=>(T i).made) 0):=by simpa[look]using M0
 clear M0 hb0 A0 hmm hW;go_loopw [13] (fun i wr=>∃j:Nat,j<=tn/\i= .int .i64 j/\Bu wr (w.heap.size+1) j (look (fun i=>(T i).id) (fun i=>(T i).made) j)/\Ag wr w (.cells n2 27)/\Below w w wr) (fun i _=>tn-(intOf i).toNat)
 case atStart=>exact⟨0,qy _,rfl,M1,A1,hb1⟩
 case round=>
  obtain⟨j,hj,rfl,HM,A,hB⟩:=hrel;clear M1 A1 hb1;by_cases hlt:j<tn
  ·obtain⟨_,_,ea,hlt0,hcc⟩:=HT.out.below hB qQ;cases ea;obtain⟨⟨q0,q1,q2,q3,q4,q5,q6⟩,ht⟩:=hcc j hlt;have i1:(j:Int)<(tn:Int):=qQ;have t1:=OH (HA j hlt);have hkey:keyOf prog 2 (.int .i64 (T j).id)=some (.int .i64 (T j).id):=keyOf_int_mk underlying2 (Iz (by have:=Lr t1;omega) (by have:=Lr t1;omega));have W2:Hid ((Lit.int .i64 (T j).made).wf=true):=Iz (by have:=KM t1;omega) (by have:=KM t1;omega);have hlm:=HM.lt;obtain⟨D,hown,hD,hm⟩:=HM;simp only[As.val,AJ.val]at q2 q4 q5;clear hcc ht t1;go_wp2_with(at_mapUpdate;refine wpList_mapUpdate_own _ rfl _ _ _ 108 rfl 2 2 Ip underlying108 _ (w.heap.size+1) j _ rfl (hown.alloc _) (by unfold maxLen;omega) _ _ _ rfl rfl hkey _ [] (plainElem_int underlying2 W2) ?_;intro w1 hown1 hgrow1)
   have hm1:=Bu.put (k:=(T j).id) (v:=(T j).made) hD hm;rw[OV (fun i=>(T i).id) (fun i=>(T i).made) j]at hm1;have A3:=A.alloc (.cells (T j) 53);refine⟨⟨j+1,by omega,by go_num,⟨_,hown1,hm1.1,hm1.2⟩,?_,?_⟩,by simp[intOf];omega⟩
   ·exact(hgrow1.block _ A3.lt sI).trans A3
   ·exact(hB.alloc hB.size _).grown hgrow1 sO (fun i hi=>by cases hi;omega)
  ·have e:j=tn:=qQ;subst e;have i1:¬(j:Int)<(j:Int):=qQ;obtain⟨y0,y1⟩:=A.two;have c1:(on:Int)<=(ok:Int):=qQ;have c2:(1:Int)<=(on:Int):=qQ;clear HT HA y0;by_cases hok:ok=1
   ·obtain rfl:on=1:=by omega
    subst hok;go_wp2;go_loopw [27] (fun i wr'=>i= .int .i64 0/\Below w w wr') (fun i _=>0)
    case atStart=>exact⟨rfl,hB⟩
    case round=>
     obtain⟨rfl,hB'⟩:=hrel;go_wp2;go_ret;exact⟨Ah (by simp[G5]),hB'⟩
   ·go_wp2;go_loopw [27] (fun i wr'=>∃q:Nat,q<=on-1/\i= .int .i64 q/\Hid (∀p,p<q->FZ j T (O (p+1)).id=true)/\Bu wr' (w.heap.size+1) j (look (fun i=>(T i).id) (fun i=>(T i).made) j)/\Below w w wr') (fun i _=>on-1-(intOf i).toNat)
    case atStart=>exact⟨0,qy _,rfl,qC (fun p hp=>by omega),HM,hB⟩
    case round=>
    obtain⟨q,hq,rfl,HN,HM',hB'⟩:=hrel;clear y1 A hB HM;by_cases hlt2:q<on-1
    ·obtain⟨_,_,ea,hlt0,hcc⟩:=HO.out.below hB' qQ;cases ea;obtain⟨⟨q0,q1,q2,q3,q4,q5,q6,q7,q8,q9⟩,ht⟩:=hcc (q+1) qQ;have ei:ooff+(q+1)*10=ooff+10+q*10:=qQ;rw[ei]at q0 q1 q2 q3 q4 q5 q6 q7 q8 q9;have i2:(q:Int)<((on-1:Nat):Int):=qQ;have hp:=HP.out (q+1) qQ;simp only[As.val,AJ.val,AE.val]at q4 q6 q7 q9;have hww:=HW.out (q+1) qQ;have hwb:=Ro hww;have ed:wrap64 ((O (q+1)).id.tdiv 1000)=(O (q+1)).id/1000:=by
      rw[Int.tdiv_eq_ediv_of_nonneg qQ];unfold wrap64;omega
     have n1:No (.cells (O (q+1)) 59):=⟨⟩;have LK:=(HM'.alloc n1).look (x:=(O (q+1)).id/1000) (Iz qQ qQ);have em:((look (fun i=>(T i).id) (fun i=>(T i).made) j ((O (q+1)).id/1000)).getD 0)=madeOf j T ((O (q+1)).id/1000):=rfl;rw[em]at LK;have HMa:=HM'.alloc n1;clear hcc ht ei em hww hwb;go_wp2
     ·go_ret;have t1:madeOf j T ((O (q+1)).id/1000)<(O (q+1)).id%1000:=qQ;refine⟨Ah ?_,hB'.alloc hB'.size _⟩;rw[G5,Hs hlt2];have:decide ((O (q+1)).id%1000<=madeOf j T ((O (q+1)).id/1000))=false:=sO;simp[FZ,this]
     ·have t1:(O (q+1)).id%1000<=madeOf j T ((O (q+1)).id/1000):=qQ;have t0:1<=(O (q+1)).id%1000:=(by assumption);refine⟨⟨q+1,by omega,by go_num,qC (fun p hp=>?_),HMa,hB'.alloc hB'.size _⟩,by simp[intOf];omega⟩;by_cases e:p=q
      ·subst e;simp[FZ,t0,t1]
      ·exact HN.out p qQ
     ·go_ret;have t1:(O (q+1)).id%1000<1:=(by assumption);refine⟨Ah ?_,hB'.alloc hB'.size _⟩;rw[G5,Hs hlt2];have:decide (1<=(O (q+1)).id%1000)=false:=sO;simp[FZ,this]
    ·have e:q=on-1:=qQ;subst e;go_wp2;go_ret;exact⟨Ah (by rw[G5,Fc HN.out]),hB'⟩
open Go
open Go.Value renaming pointer→pT
open Go.World renaming ownsRow→qq
open _root_.Option renaming some→jV
variable {v:Value}{w w':World}{b n B g:Nat}{ids:Nat->Int}{l:List Int}
def Sr(v:Value):Option (DataW Unit×List MemPlace):=
 match v with
 | .pointer none=>some (.lit (.int .i64 (-1)),[])
 | .pointer (some ⟨b,0,none⟩)=>some (.lit (.int .i64 (b:Int)),[])
 |_=>none
theorem MY{c:Int}{ps:List MemPlace}(h:Sr v=some (.lit (.int .i64 c),ps)):v= pT (if c= -1 then none else some ⟨c.toNat,0,none⟩):=by
 unfold Sr at h;split at h
 ·simp only[jV.injEq,Prod.mk.injEq,DataW.lit.injEq,Lit.int.injEq]at h;rw[if_pos h.1.2.symm]
 ·simp only[jV.injEq,Prod.mk.injEq,DataW.lit.injEq,Lit.int.injEq]at h;obtain⟨⟨_,e⟩,_⟩:=h;rw[if_neg qQ,<-e];simp
 ·cases h
def Hb(w:World)(b n:Nat)(m:Int->Option Nat):Prop:=
 ∃D:DataW Unit,w.ownsMap prog 2 Sr b n D/\IsMap D/\
  ∀x,Maps.has D (.int .i64 x)=(m x).isSome/\∀v,m x=some v->D.atKey (.int .i64 x) (.lit (.int .i64 (-1)))= .lit (.int .i64 (v:Int))
theorem Hb.made(w:World):Hb (w.alloc (.map #[] 0)) w 0 (fun _=>none):=
 ⟨.map [],World.ownsMap_made _ _ _ _,isMap_empty,fun x=>⟨rfl,fun v h=>by cases h⟩⟩
theorem Hb.of_block{m:Int->Option Nat}(h:Hb w b n m)(e:w'.heap[b]? =w.heap[b]?):Hb w' b n m:=by
 obtain⟨D,⟨es,clock,hb,F,hs,hD⟩,r⟩:=h;exact⟨D,⟨es,clock,e.trans hb,F,hs,hD⟩,r⟩
theorem Hb.lt{m:Int->Option Nat}(h:Hb w b n m):b<w.heap.size:=by
 obtain⟨D,h1,_⟩:=h;exact h1.lt
theorem Hb.below{m:Int->Option Nat}(h:Hb w b n m)(hb:Below w w w'):Hb w' b n m:=h.of_block (hb.block b h.lt)
theorem Hb.isMap{m:Int->Option Nat}(h:Hb w b n m):∃es clock,w.heap[b]? =some (.map es clock):=by
 obtain⟨D,⟨es,clock,hb,_⟩,_⟩:=h;exact⟨es,clock,hb⟩
def Jo(m:Int->Option Nat)(k:Int)(v:Nat)(x:Int):Option Nat:=if k=x then some v else m x
theorem Hb.put{D:DataW Unit}{m:Int->Option Nat}{k:Int}{v:Nat}(h2:IsMap D)
 (h3:∀x,Maps.has D (.int .i64 x)=(m x).isSome/\∀v,m x=some v->D.atKey (.int .i64 x) (.lit (.int .i64 (-1)))= .lit (.int .i64 (v:Int))):
 IsMap (D.put (.int .i64 k) (.lit (.int .i64 (v:Int))))/\
 ∀x,Maps.has (D.put (.int .i64 k) (.lit (.int .i64 (v:Int)))) (.int .i64 x)=(Jo m k v x).isSome/\∀u,Jo m k v x=some u->(D.put (.int .i64 k) (.lit (.int .i64 (v:Int)))).atKey (.int .i64 x) (.lit (.int .i64 (-1)))= .lit (.int .i64 (u:Int)):=by
 refine⟨h2.put _ _,fun x=>?_⟩;by_cases e:k=x
 ·subst e;refine⟨?_,fun u hu=>?_⟩
  ·rw[has_put_same h2 (by trivial)];simp[Jo]
  ·simp[Jo]at hu;subst hu;exact atKey_put_same h2 (by trivial) _ _
 ·have hne:(Lit.int .i64 x)≠(Lit.int .i64 k):=by simp;exact fun h=>e h.symm
  refine⟨?_,fun u hu=>?_⟩
  ·rw[has_put_other hne];simp[Jo,e];exact(h3 x).1
  ·simp[Jo,e]at hu;rw[atKey_put_other hne];exact(h3 x).2 u hu
theorem dX(w:World):(zeroValue 111).run prog w= .ok (pT none) w:=by kernel_rfl
theorem Hb.look{m:Int->Option Nat}{x:Int}(h:Hb w b n m)(hx:(Lit.int .i64 x).wf=true):
 (Instr.lookup 109 (.map (some b)) (.int .i64 x) false).run prog w= .ok (pT ((m x).map fun p=>⟨p,0,none⟩)) w:=by
 obtain⟨D,hown,hD,hall⟩:=h;obtain⟨v,ps,hrun,hv⟩:=hown.lookup Ip underlying109 (dX w) (zd:= .lit (.int .i64 (-1))) (zp:=[]) rfl (keyOf_int_mk underlying2 hx);obtain⟨h1,h2⟩:=hall x;rw[hrun];cases hm:m x with
 |none=>
  have:Maps.has D (.int .i64 x)=false:=by rw[h1,hm];rfl
  rw[atKey_of_not_has this]at hv;rw[MY hv];rfl
 |some p=>
  rw[h2 p hm]at hv;rw[MY hv,if_neg qQ];simp
theorem DK.less{m:Nat}(h:DK ids n)(hm:m<=n):DK ids m:=fun i j hij hj=>h i j hij qQ
theorem Wt{k:Nat}(h:DK ids (k+1))(x:Int):Bq ids (k+1) x=if ids k=x then some k else Bq ids k x:=by
 split
 ·rename_i e;subst e;exact Eg h (Nat.lt_succ_self k)
 ·rename_i e;cases e1:Bq ids k x with
  |none=>
   cases e2:Bq ids (k+1) x with
   |none=>rfl
   |some j=>
    obtain⟨j1,j2⟩:=AH e2;by_cases ej:j=k
    ·subst ej;exact absurd j2 e
    ·exact absurd j2 (Jd e1 j qQ)
  |some j=>
   obtain⟨j1,j2⟩:=AH e1;rw[<-j2];exact Eg h qQ
structure Ei(w:World)(B c n:Nat)(ids:Nat->Int)(ob off:Nat)(nb:Nat->Nat)(kv:Nat->Value)(K:Nat->List Int):Prop where
 map:Hb w c n (fun x=>(Bq ids n x).map nb)
 blk:∀i,i<n->Ag w (nb i) (.cells #[pT (some ⟨ob,off+i*10,none⟩),kv i] 114)
 inj:∀i j,i<n->j<n->nb i=nb j->i=j
 own:∀i,i<n->AI w B (kv i) (K i)
 apart:∀i j,i<n->j<n->i≠j->(kv i).ownBlock=none∨(kv i).ownBlock≠(kv j).ownBlock
 low:∀i,i<n->B<=nb i
 lowc:B<=c
theorem Mt(h:AI w B v l)(e:v.ownBlock=some g):∃cur,w.heap[g]? =some (.cells cur 2):=by
 rcases h.2 with⟨rfl,_⟩|⟨g',cap,cur,rfl,_,hb,_⟩
 ·cases e
 ·simp only[Value.ownBlock,jV.injEq]at e;subst e;exact⟨cur,hb⟩
theorem WQ(h:AI w B v l){cs:Array Value}{t:Nat}(hg:Ag w g (.cells cs t))(ht:t≠2):some g≠v.ownBlock:=fun e=>by
 obtain⟨cur,hb⟩:=Mt h e.symm;unfold Ag at hg;rw[hg]at hb;simp only[jV.injEq,Obj.cells.injEq]at hb;exact ht hb.2.1
theorem Zm(h:AI w B v l){m:Int->Option Nat}(hg:Hb w g n m):some g≠v.ownBlock:=fun e=>by
 obtain⟨cur,hb⟩:=Mt h e.symm;obtain⟨es,clock,hm⟩:=hg.isMap;rw[hm]at hb;cases hb
theorem Ei.below{c:Nat}{ob off:Nat}{nb:Nat->Nat}{kv:Nat->Value}{K:Nat->List Int}(h:Ei w B c n ids ob off nb kv K)(hb:Below w w w'):Ei w' B c n ids ob off nb kv K:=
 ⟨h.map.below hb,fun i hi=>(h.blk i hi).below hb,h.inj,fun i hi=>qq.kept (h.own i hi) (row:=none) ⟨hb.os,hb.tape,hb.output,hb.size,fun k hk _=>hb.block k hk⟩ (by
   cases e:(kv i).ownBlock with
   |none=>exact .inl rfl
   |some g=>exact .inr sI),h.apart,h.low,h.lowc⟩
theorem Ei.step{W W':World}{B c n:Nat}{ids:Nat->Int}{ob off:Nat}{nb:Nat->Nat}{kv:Nat->Value}{K:Nat->List Int}(H:Ei W B c n ids ob off nb kv K){u:Nat}(hu:u<n){v':Value}{x:Int}
 (ho:AI W' B v' (K u++[x]))(hgr:W.grownBy W' (kv u).ownBlock)(hv:v'.ownBlock=(kv u).ownBlock∨v'.ownBlock=some W):
 Ei (W'.setCell ⟨nb u,1,none⟩ v') B c n ids ob off nb (fun j=>if j=u then v' else kv j) (fun j=>if j=u then K u++[x]else K j):=by
 have bk:∀i,i<n->Ag W' (nb i) (.cells #[pT (some ⟨ob,off+i*10,none⟩),kv i] 114):=fun i hi=>(hgr.block (nb i) (H.blk i hi).lt (WQ (H.own u hu) (H.blk i hi) qQ)).trans (H.blk i hi);have mk:Hb W' c n (fun x=>(Bq ids n x).map nb):=H.map.of_block (hgr.block c H.map.lt (Zm (H.own u hu) H.map));have cne:c≠nb u:=fun e=>by
  obtain⟨es,clock,hm⟩:=H.map.isMap;have:=H.blk u hu;unfold Ag at this;rw[<-e,hm]at this;cases this
 have gs:W'.grownBy (W'.setCell ⟨nb u,1,none⟩ v') (some (nb u)):=⟨rfl,rfl,rfl,by rw[nblk_setCell];exact Nat.le_refl _,fun j hj hne=>blk_setCell_other _ _ _ _ (by dsimp only;intro e;exact hne (by rw[e]))⟩;have set:∀{v:Value}{X:List Int},AI W' B v X->AI (W'.setCell ⟨nb u,1,none⟩ v') B v X:=fun{v X} hX=>
  qq.kept hX gs (.inr (fun e=>WQ hX (bk u hu) qQ e.symm))
 refine⟨mk.of_block (blk_setCell_other _ _ _ _ cne),fun i hi=>?_,H.inj,fun i hi=>?_,fun i j hi hj hne=>?_,H.low,H.lowc⟩
 ·by_cases e:i=u
  ·subst e;rw[if_pos rfl];have:=(bk i hi).jB (i:=1) v';simpa using this
  ·rw[if_neg e];exact(bk i hi).other (fun e'=>e (H.inj i u hi hu e'.symm)) v'
 ·by_cases e:i=u
  ·subst e;rw[if_pos rfl,if_pos rfl];exact set ho
  ·rw[if_neg e,if_neg e];exact set (qq.kept (H.own i hi) hgr (H.apart i u hi hu e))
 ·have lt:∀j,j<n->(kv j).ownBlock=none∨(kv j).ownBlock≠some W.heap.size:=fun j hj=> .inr fun e=>by have:=(qq.lt (H.own j hj) _ e).2;omega
  by_cases e:i=u
  ·subst e;rw[if_pos rfl,if_neg (fun e=>hne e.symm)];rcases hv with hv|hv
   ·rw[hv];exact H.apart _ _ hi hj hne
   ·rw[hv];exact .inr (fun e=>by have:=(qq.lt (H.own j hj) _ e.symm).2;omega)
  ·rw[if_neg e];by_cases e':j=u
   ·subst e';rw[if_pos rfl];rcases hv with hv|hv
    ·rw[hv];exact H.apart _ _ hi hj hne
    ·rw[hv];exact lt i hi
   ·rw[if_neg e'];exact H.apart _ _ hi hj hne
open Go.Value renaming slice→qV
open Go.Region renaming wanted→jW
open _root_.List renaming range_succ→kZ
open _root_.Nat renaming le_refl→jP
open Go renaming World→qM
open Go.RowKit renaming Below→qN
variable {ids ups:Nat->Int}{q i n B:Nat}{w w':qM}
def BZ(ids ups:Nat->Int)(q i:Nat):List Int:=((List.range q).filter (fun j=>ups j==ids i)).map ids
theorem VT(h:ups q=ids i):BZ ids ups (q+1) i=BZ ids ups q i++[ids q]:=by
 simp[BZ,kZ,h]
theorem Q0(h:ups q≠ids i):BZ ids ups (q+1) i=BZ ids ups q i:=by
 simp[BZ,kZ,h]
theorem Li(ids ups:Nat->Int)(q i:Nat):(BZ ids ups q i).length<=q:=by
 unfold BZ;rw[List.length_map];exact Nat.le_trans (List.length_filter_le _ _) sI
theorem Hb.update{b:Nat}{m:Int->Option Nat}(h:Hb w b n m)(hn:n<maxLen)(kx:Int)(p:Nat)(wk:(Lit.int .i64 kx).wf=true):
 ∃w',(Instr.mapUpdate 109 (.map (some b)) (.int .i64 kx) (.pointer p)).run prog w= .ok () w'/\Hb w' b (n+1) (Jo m kx p)/\w.grownBy w' (some b):=by
 obtain⟨D,hown,hD,hall⟩:=h;obtain⟨w',hrun,r1,r2⟩:=hown.update Ip underlying109 hn (keyOf_int_mk underlying2 wk) (val:= .pointer p) (d:= .lit (.int .i64 (p:Int))) (ps:=[]) rfl;have hp:=Hb.put (k:=kx) (v:=p) hD hall;exact⟨w',hrun,⟨_,r1,hp.1,hp.2⟩,r2⟩
theorem Az(h:qN w.heap.size w w'):qN w.heap.size w w'.drew:=below_drewN h 1
theorem below_grown{row:Option Nat}(h:w.grownBy w' row)(hB:B<=w.heap.size)(hr:∀j,row=some j->B<=j):qN B w w':=
 ⟨h.os,h.tape,h.output,h.size,fun k hk=>h.block k qQ (fun e=>by have:=hr k e.symm;omega)⟩
theorem Nx{ops:Array Oper}{o:Oper}{a:Act}{w:qM}{K:Act->qM->Prop}{Q:Exit->Act->qM->Prop}{E:Prop}(hgd:o.guard=none)(s x:Operand)
 (ho:o.op= .call {callee:= .builtin .append,args:=#[s,x],argTypes:=#[51,51]})
 (B:Nat)(v:Value)(l:List Int)(hs:a.eval s=v)(hown:AI w B v l)(ad:Option Addr)(c:Nat)(r:Int)(hx:a.eval x= qV ad 1 c)(hc:Ec w ad [r])
 (hm:l.length<=100000)(hB:B<=w.heap.size)
 (h:∀a' c' w',AI w' B (qV a' (l.length+1) c') (l++[r])->w.grownBy w' v.ownBlock->((Value.slice a' (l.length+1) c').ownBlock=v.ownBlock∨(Value.slice a' (l.length+1) c').ownBlock=some w.heap.size)->K (a.put o.dst (qV a' (l.length+1) c')) w'):
 if jW o (yielded ops a.tmps)=true then Oper.wp prog o a w K Q else E:=by
 have hw:jW o (yielded ops a.tmps)=true:=by simp[jW,hgd]
 rw[if_pos hw];refine DO underlying51 Tryz.info2 rfl qQ w s x ho B v l.length _ hs hown ad 1 c [.int .i64 r] hx rfl hc (by simp[Value.oneCell']) qQ qQ hB fun a' c' w' h2 h3 h4=>?_;refine h a' c' w' ?_ h3 h4;unfold AI;rw[List.length_append,List.map_append];exact h2
theorem Ei.same{c:Nat}{ob off:Nat}{nb:Nat->Nat}{kv:Nat->Value}{K K':Nat->List Int}(h:Ei w B c n ids ob off nb kv K)(e:∀i,i<n->K' i=K i):Ei w B c n ids ob off nb kv K':=
 ⟨h.map,h.blk,h.inj,fun i hi=>by rw[e i hi];exact h.own i hi,h.apart,h.low,h.lowc⟩
theorem Ei.grow{wr W w1:qM}{B c k:Nat}{ids:Nat->Int}{ob off:Nat}{nb:Nat->Nat}(H:Ei wr B c k ids ob off nb (fun _=> qV none 0 0) (fun _=>[]))(hr:DK ids (k+1))(hb:qN wr.heap.size wr W)
 (hA:Ag W wr.heap.size (.cells #[.pointer (some ⟨ob,off+k*10,none⟩),qV none 0 0] 114))(hM:Hb w1 c (k+1) (Jo (fun x=>(Bq ids k x).map nb) (ids k) wr.heap.size))(hG:W.grownBy w1 (some c)):
 Ei w1 B c (k+1) ids ob off (fun i=>if i=k then wr.heap.size else nb i) (fun _=> qV none 0 0) (fun _=>[]):=by
 have hc:c<wr.heap.size:=H.map.lt;have cne:∀i,i<k->c≠nb i:=fun i hi e=>by
  obtain⟨es,clock,hm⟩:=H.map.isMap;have:=H.blk i hi;unfold Ag at this;rw[<-e,hm]at this;cases this
 refine⟨?_,fun i hi=>?_,fun i j hi hj=>?_,fun i hi=>AI.nil _ _,fun i j _ _ _=> .inl rfl,fun i hi=>?_,H.lowc⟩
 ·have e:(fun x=>(Bq ids (k+1) x).map (fun i=>if i=k then wr.heap.size else nb i))=Jo (fun x=>(Bq ids k x).map nb) (ids k) wr.heap.size:=by
   funext x;rw[Wt hr];unfold Jo;split
   ·simp
   ·cases e1:Bq ids k x with
    |none=>simp[e1]
    |some j=>
     have:=(AH e1).1;simp only[Option.map_some,e1];rw[if_neg qQ]
  rw[e];exact hM
 ·by_cases e:i=k
  ·subst e;rw[if_pos rfl];exact(hG.block _ hA.lt sO).trans hA
  ·rw[if_neg e];have h1:=(H.blk i qQ).below hb;exact(hG.block _ h1.lt (by simp;exact fun e=>cne i qQ e.symm)).trans h1
 ·have lt:∀i,i<k->nb i<wr.heap.size:=fun i hi=>(H.blk i hi).lt;by_cases e:i=k
  ·by_cases e':j=k
   ·omega
   ·rw[if_pos e,if_neg e'];have:=lt j qQ;omega
  ·by_cases e':j=k
   ·rw[if_neg e,if_pos e'];have:=lt i qQ;omega
   ·rw[if_neg e,if_neg e'];exact H.inj i j qQ qQ
 ·split
  ·have:=H.lowc;omega
  ·exact H.low i qQ
theorem M3(ob off n cap:Nat)(O:Nat->Ab)(w:qM)(hn:n<=271)(hO:Io w (some ⟨ob,off,none⟩) n O)(hr:DK (fun i=>(O i).id) n)
 (hw:∀i,i<n->(Lit.int .i64 (O i).id).wf=true/\(Lit.int .i64 (O i).up).wf=true):
 Calls prog 61 #[qV (some ⟨ob,off,none⟩) n cap] w fun e w'=>∃c nb kv,e= .returned (.map (some c))/\Ei w' w.heap.size c n (fun i=>(O i).id) ob off nb kv (BZ (fun i=>(O i).id) (fun i=>(O i).up) n)/\qN w.heap.size w w':=by
 have hmm:=@run_makeMap prog;have HO:=qC hO;have HR:=qC hr;have HW:=qC hw;clear hO hr hw;have M0:=qC (Hb.made w);have hb0:=Bg w (.map #[] 0);go_enter func61,ntmps61
 go_wp2;go_loopw [11] (fun i wr=>∃(k:Nat) (nb:Nat->Nat),k<=n/\i= .int .i64 k/\Hid (Ei wr w.heap.size w.heap.size k (fun i=>(O i).id) ob off nb (fun _=> qV none 0 0) (fun _=>[]))/\qN w.heap.size w wr) (fun i _=>n-(intOf i).toNat)
 case atStart=>
  refine⟨0,fun _=>0,qy _,rfl,qC ⟨?_,fun i hi=>by omega,fun i j hi=>by omega,fun i hi=>by omega,fun i j hi=>by omega,fun i hi=>by omega,jP _⟩,hb0⟩;exact M0.out
 case round=>
  obtain⟨k,nb,hk,rfl,HN,hB⟩:=hrel;clear M0 hb0 hmm;by_cases hlt:k<n
  ·obtain⟨_,_,ea,hlt0,hcc⟩:=HO.out.below hB qQ;cases ea;have q0:=(hcc k hlt).1.c0;have i1:(k:Int)<(n:Int):=qQ;have i0:(0:Int)<=(k:Int):=qQ;have W0:=qC (HW.out k hlt).1;clear hcc;go_wp2;have kn:k<maxLen:=(by unfold maxLen;omega);have n3:No (.cells #[.pointer (some ⟨ob,off+k*10,none⟩),qV none 0 0] 114):=⟨⟩;have b1:qN wr.heap.size wr ((wr.alloc n3).drew):=Az (Bg wr _);have A1:Ag ((wr.alloc n3).drew) wr.heap.size n3:=Ag.new wr _;obtain⟨w1,hrun,hm1,hg1⟩:=(HN.out.map.below b1).update kn (O k).id wr.heap.size W0.out;have HM:=qC hm1;have HG:=qC hg1;have HB:=qC b1;have HA:=qC A1;clear hm1 hg1 b1 A1;go_region;have NN:=qC (HN.out.grow (HR.out.less qQ) HB.out HA.out HM.out HG.out);have B1:qN w.heap.size w w1:=(Af hB HB.out).trans (below_grown HG.out (Af hB HB.out).size (fun j hj=>by cases hj;exact jP _));clear HM HG HB HA hrun HN q0;go_wp2;exact⟨⟨k+1,_,by omega,by go_num,NN,B1⟩,by simp[intOf];omega⟩
  ·have e:k=n:=qQ;subst e;have i1:¬(k:Int)<(k:Int):=qQ;go_wp2;go_loopw [28] (fun i wr=>∃(q:Nat) (kv:Nat->Value),q<=k/\i= .int .i64 q/\Hid (Ei wr w.heap.size w.heap.size k (fun i=>(O i).id) ob off nb kv (BZ (fun i=>(O i).id) (fun i=>(O i).up) q))/\qN w.heap.size w wr) (fun i _=>k-(intOf i).toNat)
   case atStart=>exact⟨0,_,qy _,rfl,HN,hB⟩
   case round=>
    obtain⟨q,kv,hq,rfl,HN,hB⟩:=hrel;by_cases hlt:q<k
    ·obtain⟨_,_,ea,hlt0,hcc⟩:=HO.out.below hB qQ;cases ea;obtain⟨q0,q1,q2,q3,q4,q5,q6,q7,q8,q9⟩:=(hcc q hlt).1;simp only[As.val,AJ.val,AE.val]at q4 q6 q7 q9;have i1:(q:Int)<(k:Int):=qQ;have b1:qN wr.heap.size wr (wr.alloc (.cells (O q) 59)):=Bg wr _;have n1:No (.cells (O q) 59):=⟨⟩;have A1:=Ag.new wr n1;have x0:_=some (Value.int .i64 (O q).id):=A1.c0 0 rfl;have x2:_=some (Value.int .i64 (O q).up):=A1.c0 2 rfl;have N1:=qC (HN.out.below b1);have B1:=Af hB b1;have LK:=N1.out.map.look (x:=(O q).up) (HW.out q hlt).2;clear hcc hlt0;cases hf:Bq (fun i=>(O i).id) k (O q).up with
     |none=>
      have NK:Hid (∀i,i<k->BZ (fun i=>(O i).id) (fun i=>(O i).up) (q+1) i=BZ (fun i=>(O i).id) (fun i=>(O i).up) q i):=qC (fun i hi=>Q0 (fun e=>Jd hf i hi e.symm));simp only[hf,Option.map_none]at LK;clear hf;go_wp2;exact⟨⟨q+1,kv,by omega,by go_num,qC (N1.out.same NK.out),B1⟩,by simp[intOf];omega⟩
     |some u=>
      obtain⟨hu,eu⟩:=AH hf;have EU:=qC eu;simp only[hf,Option.map_some]at LK;clear hf eu;have A2:=N1.out.blk u hu;have O2:=N1.out.own u hu;have hlen:=Li (fun i=>(O i).id) (fun i=>(O i).up) q u;go_wp2;generalize wr.alloc n1=W at *;have y1:_=some (kv u):=A2.c0 1 rfl;have n2:Nw (W.alloc (.cells #[.int .i64 (O q).id] 2)):=⟨⟩;have bl:qN W.heap.size W ((n2:qM).drew):=Az (Bg W _);have N2:=qC (N1.out.below bl);have l1:Ec ((n2:qM).drew) (some ⟨W.heap.size,0,none⟩) [(O q).id]:=Ec.one (O q).id;have hB2:=Af B1 bl;have OA:=qC (N2.out.own u hu);have HL:=qC l1;have lm:(BZ (fun i=>(O i).id) (fun i=>(O i).up) q u).length<=100000:=qQ;have s1:=hB2.size;have A3:Hid (∀w3:qM,((n2:qM).drew).grownBy w3 (kv u).ownBlock->Ag w3 (nb u) (.cells #[.pointer (some ⟨ob,off+u*10,none⟩),kv u] 114)):=qC (fun w3 g3=>(g3.block (nb u) (N2.out.blk u hu).lt (WQ (N2.out.own u hu) (N2.out.blk u hu) qQ)).trans (N2.out.blk u hu));have FIN:Hid (∀(a3:Option Addr) (c3:Nat) (w3:qM),AI w3 w.heap.size (qV a3 ((BZ (fun i=>(O i).id) (fun i=>(O i).up) q u).length+1) c3) (BZ (fun i=>(O i).id) (fun i=>(O i).up) q u++[(O q).id])->((n2:qM).drew).grownBy w3 (kv u).ownBlock->((Value.slice a3 ((BZ (fun i=>(O i).id) (fun i=>(O i).up) q u).length+1) c3).ownBlock=(kv u).ownBlock∨(Value.slice a3 ((BZ (fun i=>(O i).id) (fun i=>(O i).up) q u).length+1) c3).ownBlock=some ((n2:qM).drew).heap.size)->
       ∃kv',Hid (Ei (w3.setCell ⟨nb u,1,none⟩ (qV a3 ((BZ (fun i=>(O i).id) (fun i=>(O i).up) q u).length+1) c3)) w.heap.size w.heap.size k (fun i=>(O i).id) ob off nb kv' (BZ (fun i=>(O i).id) (fun i=>(O i).up) (q+1)))/\qN w.heap.size w (w3.setCell ⟨nb u,1,none⟩ (qV a3 ((BZ (fun i=>(O i).id) (fun i=>(O i).up) q u).length+1) c3))):=qC (fun a3 c3 w3 ho g3 v3=>by
       refine⟨_,qC ((N2.out.step hu ho g3 v3).same (fun i hi=>?_)),?_⟩
       ·split
        ·rename_i e;subst e;exact VT EU.out.symm
        ·rename_i e;exact Q0 (fun e'=>e (HR.out.inj hi hu (by rw[<-e'];exact EU.out.symm)))
       ·exact(hB2.trans (below_grown g3 hB2.size (fun j hj=>(World.ownsRow.lt (N2.out.own u hu) j hj).1))).setCell (N1.out.low u hu) _)
      have y1a:(n2:qM).cell? ⟨nb u,1,none⟩=some (kv u):=((Bg W _).cell (p:=⟨nb u,1,none⟩) A2.lt).trans y1;have un:¬nb u=W.heap.size:=(by have:=A2.lt;omega);have pn:¬wr.heap.size=W.heap.size:=(by have:=A1.lt;omega);clear l1 bl b1 q0 q1 q2 q3 q4 q5 q6 q7 q8 q9 hlen A1 A2 O2 LK hB2;go_region_law((refine Nx qK _ _ qK w.heap.size (kv u) (BZ (fun i=>(O i).id) (fun i=>(O i).up) q u) qK OA.out _ 1 (O q).id qK HL.out lm s1 ?_;intro a3 c3 w3 O3 g3 v3;have Z:=qC (A3.out w3 g3);have z1:_=some (kv u):=Z.out.c0 1 rfl;have z2:=Z.out.jC 1;have O4:=qC O3;have G4:=qC g3;have V4:=qC v3;clear O3 g3 v3))
      all_goals(
       obtain⟨kv',nn,bb⟩:=FIN.out _ _ _ O4.out G4.out V4.out;clear FIN O4 G4 V4 Z z1 z2 A3 OA HL N2 N1 HN;go_wp2;exact⟨⟨q+1,kv',by omega,by go_num,nn,bb⟩,by simp[intOf];omega⟩)
    ·have e:q=k:=qQ;subst e;have i1:¬(q:Int)<(q:Int):=qQ;go_wp2;go_ret;exact⟨_,rfl,⟨_,_,HN.out⟩,hB⟩
open _root_.Nat renaming zero_add→jx
section
variable {t e size bytes:Nat}{z:Value} (hT:prog.underlying t=some (.slice e)) (hI:(prog.info? e).map (fun i=>(i.zero,i.size,i.bytes))=some (some z,size,bytes)) (hzs:z.cells.size=size) (hsz:0<size)
include hT hI hzs hsz
theorem Cl{ops:Array Oper}{rest:List Oper}{o:Oper}{a:Act}{Q:Exit->Act->qM->Prop}(w:qM)(hgd:o.guard=none)(s x:Operand)
 (ho:o.op= .call {callee:= .builtin .append,args:=#[s,x],argTypes:=#[t,t]})
 (B:Nat)(v:Value)(n:Nat)(cs:List Value)(hs:a.eval s=v)(hown:w.ownsRow B e size v n cs)(ad:Option Addr)(m c:Nat)(cs':List Value)(hx:a.eval x= qV ad m c)(hl:cs'.length=m*size)(hc:Bl w ad m cs')(h1:∀u∈cs',u.oneCell'=true)
 (hm:n+m<=4194304)(hby:(n+m)*bytes<=140737488355328)(hB:B<=w.heap.size)
 (h:∀a' c' w',w'.ownsRow B e size (qV a' (n+m) c') (n+m) (cs++cs')->w.grownBy w' v.ownBlock->wpList prog ops Q rest (a.put o.dst (qV a' (n+m) c')) w'):wpList prog ops Q (o::rest) a w:=
 wpList_plain hgd fun _ hK=>DO hT hI hzs hsz w s x ho B v n cs hs hown ad m c cs' hx hl hc h1 hm hby hB fun a' c' w' h2 h3 _=>hK _ _ (h a' c' w' h2 h3)
end
def As.new(B:Nat)(w:qM)(c:As):Prop:=c.at w/\(0<c.n->∃b m F,c.a=some ⟨b,0,none⟩/\B<=b/\c.n*2<=m/\w.rowIs b 96 m F)
def AJ.new(B:Nat)(w:qM)(c:AJ):Prop:=c.at w/\(0<c.n->∃b m F,c.a=some ⟨b,0,none⟩/\B<=b/\c.n<=m/\w.rowIs b 2 m F)
def AE.new(B:Nat)(w:qM)(c:AE):Prop:=c.at w/\(0<c.n->∃b m F,c.a=some ⟨b,0,none⟩/\B<=b/\(c.n<=m/\m=c.k)/\w.rowIs b 9 m F)
theorem As.new.below{B:Nat}{w w':qM}{c:As}(h:c.new B w)(hb:Below w w w'):c.new B w':=⟨h.1.below hb,fun hn=>by
 obtain⟨b,m,F,e,h1,h2,h3⟩:=h.2 hn;exact⟨b,m,F,e,h1,h2,MW h3 hb⟩⟩
theorem AJ.new.below{B:Nat}{w w':qM}{c:AJ}(h:c.new B w)(hb:Below w w w'):c.new B w':=⟨h.1.below hb,fun hn=>by
 obtain⟨b,m,F,e,h1,h2,h3⟩:=h.2 hn;exact⟨b,m,F,e,h1,h2,MW h3 hb⟩⟩
theorem AE.new.below{B:Nat}{w w':qM}{c:AE}(h:c.new B w)(hb:Below w w w'):c.new B w':=⟨h.1.below hb,fun hn=>by
 obtain⟨b,m,F,e,h1,h2,h3⟩:=h.2 hn;exact⟨b,m,F,e,h1,h2,MW h3 hb⟩⟩
theorem As.new.low{B B':Nat}{w:qM}{c:As}(h:c.new B w)(hB:B'<=B):c.new B' w:=⟨h.1,fun hn=>by
 obtain⟨b,m,F,e,h1,h2,h3⟩:=h.2 hn;exact⟨b,m,F,e,by omega,h2,h3⟩⟩
theorem AJ.new.low{B B':Nat}{w:qM}{c:AJ}(h:c.new B w)(hB:B'<=B):c.new B' w:=⟨h.1,fun hn=>by
 obtain⟨b,m,F,e,h1,h2,h3⟩:=h.2 hn;exact⟨b,m,F,e,by omega,h2,h3⟩⟩
theorem AE.new.low{B B':Nat}{w:qM}{c:AE}(h:c.new B w)(hB:B'<=B):c.new B' w:=⟨h.1,fun hn=>by
 obtain⟨b,m,F,e,h1,h2,h3⟩:=h.2 hn;exact⟨b,m,F,e,by omega,h2,h3⟩⟩
theorem DT{w:qM}{B e size n c:Nat}{a:Option Addr}{cs:List Value}(h:w.ownsRow B e size (qV a n c) n cs)(hn:0<n):∃b m F,a=some ⟨b,0,none⟩/\B<=b/\n*size<=m/\w.rowIs b e m F:=by
 rcases h.2 with⟨_,h0⟩|⟨g,cap,cur,hv,h1,h2,h3,h4,h5,h6⟩
 ·omega
 ·simp only[Value.slice.injEq]at hv;obtain⟨rfl,_,rfl⟩:=hv;exact⟨g,cur.size,fun i=>cur[i]?.getD undef,rfl,h1,by rw[h5];exact Nat.mul_le_mul_right _ h3,⟨cur,h2,rfl,fun i hi=>by simp[hi]⟩⟩
theorem Ng{w:qM}{B e n c:Nat}{a:Option Addr}{cs:List Value}(h:w.ownsRow B e 1 (qV a n c) n cs)(hn:0<n):∃b m F,a=some ⟨b,0,none⟩/\B<=b/\(n<=m/\m=c)/\w.rowIs b e m F:=by
 rcases h.2 with⟨_,h0⟩|⟨g,cap,cur,hv,h1,h2,h3,h4,h5,h6⟩
 ·omega
 ·simp only[Value.slice.injEq]at hv;obtain⟨rfl,_,rfl⟩:=hv;exact⟨g,cur.size,fun i=>cur[i]?.getD undef,rfl,h1,⟨by rw[h5];omega,by rw[h5];omega⟩,⟨cur,h2,rfl,fun i hi=>by simp[hi]⟩⟩
theorem X8{w:qM}{a:Option Addr}{n:Nat}{f g:Nat->Int}(h:Bd w a n f g):Bl w a n (Cp f g n):=fun hn=>by
 obtain⟨b,off,e,hlt,hc⟩:=h hn;refine⟨b,off,e,hlt,fun j u hu=>?_⟩;by_cases hj:j<n*2
 ·rw[DG _ _ _ _ hj]at hu;have hu':=Option.some.inj hu;rw[<-hu'];obtain⟨c0,c1⟩:=hc (j/2) qQ;unfold Dx;by_cases e2:j%2=0
  ·rw[if_pos e2,<-c0];congr 2;omega
  ·rw[if_neg e2,<-c1];congr 2;omega
 ·rw[List.getElem?_eq_none (by rw[CR];omega)]at hu;cases hu
theorem Mm{w:qM}{a:Option Addr}{n:Nat}{f:Nat->ByteArray}(h:JL w a n f):Bl w a n ((List.range n).map (fun i=>Value.string (f i))):=fun hn=>by
 obtain⟨b,off,e,hlt,hc⟩:=h hn;refine⟨b,off,e,hlt,fun j u hu=>?_⟩;by_cases hj:j<n
 ·simp[hj]at hu;rw[<-hu];exact hc j hj
 ·simp[hj]at hu
theorem QH(c:As)(w:qM)(hc:c.at w)(hn:c.n<=1048576):
 Calls prog 126 #[c.val] w fun e w'=>∃d:As,e= .returned d.val/\c.same d/\d.new w w'/\Below w w w':=by
 obtain⟨a,n,cap,f,g⟩:=c;obtain⟨hm,hc⟩:=hc;unfold As.val;simp only at hm hc hn ⊢;have L:=qC (X8 hc);clear hc;go_enter func126,ntmps126
 go_wp2_with(refine Cl underlying40 Tryz.info96 rfl qQ _ rfl _ _ rfl w (qV none 0 0) 0 [] rfl (World.ownsRow_nil _ _ _ _) a n cap (Cp f g n) rfl (by simp[Cp]) L (Ly f g n) qQ qQ nr ?_;intro a3 c3 w3 o3 g3;rw[jx,List.nil_append]at o3;rw[jx])
 go_ret;have hr:AO w3 w (qV a3 n c3) n f g:=o3;exact⟨⟨a3,n,c3,f,g⟩,rfl,⟨rfl,rfl,rfl⟩,⟨⟨hm,hr.cats⟩,fun h0=>DT o3 h0⟩,below_grown g3 nr (fun j hj=>by cases hj)⟩
open Go.World renaming cell?_of_block→xP
open _root_.Nat renaming lt_of_lt_of_le→qv
variable {B P t:Nat}{w w':World}{c:As}
theorem As.new.of(h:c.new B w)(hs:w.heap.size<=w'.heap.size)(hb:∀b,c.a=some ⟨b,0,none⟩->0<c.n->w'.heap[b]? =w.heap[b]?):c.new B w':=
 ⟨⟨h.1.1,fun hn=>by
   obtain⟨b,off,e,hlt,hc⟩:=h.1.2 hn;obtain⟨b',_,_,e',_⟩:=h.2 hn;have eb:=e.symm.trans e';cases eb;have ce:∀o,w'.cell? ⟨b,o,none⟩=w.cell? ⟨b,o,none⟩:=fun o=>xP (a:=⟨b,o,none⟩) (hb b e' hn);exact⟨b,0,e,qv hlt hs,fun i hi=>by rw[ce,ce];exact hc i hi⟩⟩,fun hn=>by
   obtain⟨b,m,F,e,h1,h2,h3⟩:=h.2 hn;exact⟨b,m,F,e,h1,h2,h3.of_block (hb b e hn)⟩⟩
theorem As.new.ne(h:c.new B w){cs:Array Value}(hP:Ag w P (.cells cs t))(ht:t≠96):∀b,c.a=some ⟨b,0,none⟩->0<c.n->b≠P:=fun b e hn=>by
 obtain⟨b',m,F,e',_,_,h3⟩:=h.2 hn;rw[e]at e';cases e';exact Fz h3 hP.row (fun e=>ht e.symm)
theorem AJ.new.of{c:AJ}(h:c.new B w)(hs:w.heap.size<=w'.heap.size)(hb:∀b,c.a=some ⟨b,0,none⟩->0<c.n->w'.heap[b]? =w.heap[b]?):c.new B w':=
 ⟨⟨h.1.1,fun hn=>by
   obtain⟨b,off,e,hlt,hc⟩:=h.1.2 hn;obtain⟨b',_,_,e',_⟩:=h.2 hn;have eb:=e.symm.trans e';cases eb;have ce:∀o,w'.cell? ⟨b,o,none⟩=w.cell? ⟨b,o,none⟩:=fun o=>xP (a:=⟨b,o,none⟩) (hb b e' hn);exact⟨b,0,e,qv hlt hs,fun i hi=>by rw[ce];exact hc i hi⟩⟩,fun hn=>by
   obtain⟨b,m,F,e,h1,h2,h3⟩:=h.2 hn;exact⟨b,m,F,e,h1,h2,h3.of_block (hb b e hn)⟩⟩
theorem AJ.new.ne{c:AJ}(h:c.new B w){cs:Array Value}(hP:Ag w P (.cells cs t))(ht:t≠2):∀b,c.a=some ⟨b,0,none⟩->0<c.n->b≠P:=fun b e hn=>by
 obtain⟨b',m,F,e',_,_,h3⟩:=h.2 hn;rw[e]at e';cases e';exact Fz h3 hP.row (fun e=>ht e.symm)
theorem AE.new.of{c:AE}(h:c.new B w)(hs:w.heap.size<=w'.heap.size)(hb:∀b,c.a=some ⟨b,0,none⟩->0<c.n->w'.heap[b]? =w.heap[b]?):c.new B w':=
 ⟨⟨h.1.1,fun hn=>by
   obtain⟨b,off,e,hlt,hc⟩:=h.1.2.1 hn;obtain⟨b',_,_,e',_⟩:=h.2 hn;have eb:=e.symm.trans e';cases eb;have ce:∀o,w'.cell? ⟨b,o,none⟩=w.cell? ⟨b,o,none⟩:=fun o=>xP (a:=⟨b,o,none⟩) (hb b e' hn);exact⟨b,0,e,qv hlt hs,fun i hi=>by rw[ce];exact hc i hi⟩,h.1.2.2⟩,fun hn=>by
   obtain⟨b,m,F,e,h1,h2,h3⟩:=h.2 hn;exact⟨b,m,F,e,h1,h2,h3.of_block (hb b e hn)⟩⟩
theorem AE.new.ne{c:AE}(h:c.new B w){cs:Array Value}(hP:Ag w P (.cells cs t))(ht:t≠9):∀b,c.a=some ⟨b,0,none⟩->0<c.n->b≠P:=fun b e hn=>by
 obtain⟨b',m,F,e',_,_,h3⟩:=h.2 hn;rw[e]at e';cases e';exact Fz h3 hP.row (fun e=>ht e.symm)
theorem Yq(tmps:Array Value)(W:World)(P:Nat)(x y:Value)(h:Ag W P (.cells #[x,y] 42))(h2:tmps[2]? =some (.pointer P)):
 (results Tryz.f87 tmps).run prog W= .ok (.agg #[x,y]) W:=by
 obtain⟨z0,z1⟩:=h.two;simp[results,Tryz.results87,go_sem,h2,z0,z1]
theorem Bm(b:Int)(c:As)(w:World)(hc:c.at w)(hn:c.n<=1048576):
 Calls prog 87 #[.agg #[.int .i64 b,c.val]] w fun e w'=>∃d:As,e= .returned (.agg #[.int .i64 b,d.val])/\c.same d/\d.new w w'/\Below w w w':=by
 have n3:No (.cells #[.int .i64 0,.slice none 0 0] 42):=⟨⟩;have n4:No (.cells #[.int .i64 b,c.val] 42):=⟨⟩;have b0:Below w w ((w.alloc n4).alloc n3):=(Bg w _).alloc sI _;have A0:=(Ag.new w n4).alloc n3;have R0:Ag ((w.alloc n4).alloc n3) (w.heap.size+1) n3:=by
  have:=Ag.new (w.alloc n4) n3;simpa using this
 have C1:=qC (QH c _ (hc.below b0) hn);obtain⟨x0,x1⟩:=A0.two;clear hc;go_enter func87,ntmps87
 go_wp2_with fail
 refine C1.out.mono ?_;rintro e w1 ⟨d,rfl,hs,hd,hb1⟩;have A1:=A0.below hb1;have R1:=R0.below hb1;have B1:=Af b0 hb1;have HD:=qC (hd.low b0.size);have HS:=qC hs;obtain⟨x0',x1'⟩:=A1.two;obtain⟨y0,y1⟩:=R1.two;have xf:=A1.jC;have yf:=R1.jC;have ne1:¬w.heap.size=w.heap.size+1:=by omega
 have ne2:¬w.heap.size+1=w.heap.size:=by omega
 clear hs hd C1 x0 x1 A0 R0 b0 hb1;unfold As.val at x1' ⊢;go_wp2;refine bodyPost_ret (Yq _ _ (w.heap.size+1) (.int .i64 b) (.slice d.a d.n d.k) (((R1.other (Q:=w.heap.size) (i:=1) qQ _).jB (i:=0) _).jB (i:=1) _) rfl) rfl ⟨d,rfl,HS,?_,?_⟩
 ·refine HD.out.of sI (fun g hg hn'=>?_);have n1:=HD.out.ne A1 qX g hg hn';have n2:=HD.out.ne R1 qX g hg hn';rw[blk_setCell_other _ _ _ _ qJ,blk_setCell_other _ _ _ _ qJ,blk_setCell_other _ _ _ _ qJ]
 ·exact((B1.setCell qJ _).setCell qJ _).setCell qJ _
open Go.BigFrame Go.Shelf
open Go.Obj renaming cells→qG
variable {W:World}{P t:Nat}
theorem EJ{ops:Array Oper}{o:Oper}{a:Act}{w:World}{K:Act->World->Prop}{Q:Exit->Act->World->Prop}{E:Prop}(hgd:o.guard=none)(f:Nat)(x:Operand)(ats:Array TypeId)
 (ho:o.op= .call {callee:= .value (.func f),args:=#[x],argTypes:=ats})(eg:∀args w,(callFunc f args).run prog w= .ok (.enter f args) w)(v0:Value)(hv:a.eval x=v0)
 (R:Value->World->Prop)(hc:Calls prog f #[v0] w fun e w'=>∃v,e= .returned v/\R v w')(h:∀v w',R v w'->K (a.put o.dst v) w'):
 if jW o (yielded ops a.tmps)=true then Oper.wp prog o a w K Q else E:=by
 have hw:jW o (yielded ops a.tmps)=true:=by simp[jW,hgd]
 rw[if_pos hw];have e:(execOp a.eval o).run prog w= .ok (.enter f #[v0]) w:=by
  unfold execOp;simp only[ho,resolve,invoke,Sem.run_bind,List.map_toArray,List.map_cons,List.map_nil,hv];simp[go_sem,eg,Act.eval]
 unfold Oper.wp;rw[e,Oper.upon_enter];exact hc.mono fun e w' ⟨v,he,hr⟩=>by subst he;exact h v w' hr
def Ae.new(B:Nat)(w:World)(t:Ae):Prop:=t.c1.new B w/\t.c2.new B w/\t.own.new B w
def Ae.apart(t:Ae):Prop:=∀b b',t.c1.a=some ⟨b,0,none⟩->0<t.c1.n->t.c2.a=some ⟨b',0,none⟩->0<t.c2.n->b≠b'
theorem Ag.seven{x0 x1 x2 x3 x4 x5 x6:Value}(h:Ag W P (qG #[x0,x1,x2,x3,x4,x5,x6] t)):W.cell? ⟨P,0,none⟩=some x0/\W.cell? ⟨P,1,none⟩=some x1/\W.cell? ⟨P,2,none⟩=some x2/\W.cell? ⟨P,3,none⟩=some x3/\W.cell? ⟨P,4,none⟩=some x4/\W.cell? ⟨P,5,none⟩=some x5/\W.cell? ⟨P,6,none⟩=some x6:=by
 unfold Ag at h;simp[World.cell?,h]
theorem Yf(tmps:Array Value)(W:World)(P:Nat)(x0 x1 x2 x3 x4 x5 x6:Value)(h:Ag W P (qG #[x0,x1,x2,x3,x4,x5,x6] 53))(h2:tmps[2]? =some (.pointer P)):
 (results Tryz.f39 tmps).run prog W= .ok (.agg #[x0,x1,x2,x3,x4,x5,x6]) W:=by
 obtain⟨z0,z1,z2,z3,z4,z5,z6⟩:=h.seven;simp[results,Tryz.results39,go_sem,h2,z0,z1,z2,z3,z4,z5,z6]
theorem Ag.all7{z0 z1 z2 z3 z4 z5 z6:Value}(h:Ag W P (qG #[z0,z1,z2,z3,z4,z5,z6] t))(x0 x1 x2 x3 x4 x5 x6:Value):
 Ag (((((((W.setCell ⟨P,0,none⟩ x0).setCell ⟨P,1,none⟩ x1).setCell ⟨P,2,none⟩ x2).setCell ⟨P,3,none⟩ x3).setCell ⟨P,4,none⟩ x4).setCell ⟨P,5,none⟩ x5).setCell ⟨P,6,none⟩ x6) P (qG #[x0,x1,x2,x3,x4,x5,x6] t):=by
 have h0:Ag (W.setCell ⟨P,0,none⟩ x0) P (qG #[x0,z1,z2,z3,z4,z5,z6] t):=h.jB (i:=0) x0;have h1:Ag ((W.setCell ⟨P,0,none⟩ x0).setCell ⟨P,1,none⟩ x1) P (qG #[x0,x1,z2,z3,z4,z5,z6] t):=h0.jB (i:=1) x1;have h2:Ag (((W.setCell ⟨P,0,none⟩ x0).setCell ⟨P,1,none⟩ x1).setCell ⟨P,2,none⟩ x2) P (qG #[x0,x1,x2,z3,z4,z5,z6] t):=h1.jB (i:=2) x2;have h3:Ag ((((W.setCell ⟨P,0,none⟩ x0).setCell ⟨P,1,none⟩ x1).setCell ⟨P,2,none⟩ x2).setCell ⟨P,3,none⟩ x3) P (qG #[x0,x1,x2,x3,z4,z5,z6] t):=h2.jB (i:=3) x3;have h4:Ag (((((W.setCell ⟨P,0,none⟩ x0).setCell ⟨P,1,none⟩ x1).setCell ⟨P,2,none⟩ x2).setCell ⟨P,3,none⟩ x3).setCell ⟨P,4,none⟩ x4) P (qG #[x0,x1,x2,x3,x4,z5,z6] t):=h3.jB (i:=4) x4;have h5:Ag ((((((W.setCell ⟨P,0,none⟩ x0).setCell ⟨P,1,none⟩ x1).setCell ⟨P,2,none⟩ x2).setCell ⟨P,3,none⟩ x3).setCell ⟨P,4,none⟩ x4).setCell ⟨P,5,none⟩ x5) P (qG #[x0,x1,x2,x3,x4,x5,z6] t):=h4.jB (i:=5) x5;exact h5.jB (i:=6) x6
open _root_.ByteArray renaming mk→qD
def Ab.new(B:Nat)(w:World)(t:Ab):Prop:=t.c1.new B w/\t.jA.new B w/\t.own.new B w/\t.c2.new B w
def Ab.apart(t:Ab):Prop:=∀b b',t.c1.a=some ⟨b,0,none⟩->0<t.c1.n->t.c2.a=some ⟨b',0,none⟩->0<t.c2.n->b≠b'
theorem YA(tmps:Array Value)(W:World)(P:Nat)(x0 x1 x2 x3 x4 x5 x6 x7 x8 x9:Value)(h:Ag W P (.cells #[x0,x1,x2,x3,x4,x5,x6,x7,x8,x9] 59))(h2:tmps[2]? =some (.pointer P)):
 (results Tryz.f40 tmps).run prog W= .ok (.agg #[x0,x1,x2,x3,x4,x5,x6,x7,x8,x9]) W:=by
 obtain⟨z0,z1,z2,z3,z4,z5,z6,z7,z8,z9⟩:=h.jE;simp[results,Tryz.results40,go_sem,h2,z0,z1,z2,z3,z4,z5,z6,z7,z8,z9]
def FJ:Obj:= .cells #[.int .i64 0,.int .i64 0,.int .i64 0,.int .i64 0,.slice none 0 0,.string (qD #[]),.slice none 0 0,.slice none 0 0,.int .i64 0,.slice none 0 0] 59
open _root_.List renaming length_append→jU,length_map→kX,length_cons→kB
def Oy(N:Nat):Value:= .func (.func 107) #[] #[pT (some ⟨N+1,0,none⟩),pT N,pT (some ⟨N+1+1,0,none⟩)]
structure MH(w0:qM)(c:Nat)(w:qM)(v:Value)(l:List Int):Prop where
 b:Below w0 w0 w
 q:Ag w w0 (.cells #[.map (some c)] 109)
 p:Ag w (w0.heap.size+1) (.cells #[v] 51)
 r:Ag w (w0.heap.size+1+1) (.cells #[Oy w0.heap.size] 161)
 o:AI w (w0.heap.size+1+1+1) v l
theorem Ag.grown{w w':qM}{P:Nat}{o:Obj}{row:Option Nat}(h:Ag w P o)(hg:w.grownBy w' row)(hne:some P≠row):Ag w' P o:=(hg.block P h.lt hne).trans h
theorem MH.push{w0 w w':qM}{c:Nat}{v v':Value}{l:List Int}{x:Int}(h:MH w0 c w v l)(ho:AI w' (w0.heap.size+1+1+1) v' (l++[x]))(hg:(w.alloc (.cells #[.int .i64 x] 2)).grownBy w' v.ownBlock):
 MH w0 c (w'.setCell ⟨w0.heap.size+1,0,none⟩ v') v' (l++[x]):=by
 have b1:Below w w (w.alloc (.cells #[.int .i64 x] 2)):=Bg w _;have hne:∀k,k<w0.heap.size+1+1+1->some k≠v.ownBlock:=fun k hk e=>by have:=(qq.lt h.o k e.symm).1;omega
 have p1:=(h.p.below b1).grown hg (hne _ qQ);have q1:=(h.q.below b1).grown hg (hne _ qQ);have r1:=(h.r.below b1).grown hg (hne _ qQ);refine⟨?_,q1.other qQ _,?_,r1.other qQ _,?_⟩
 ·exact((h.b.trans (b1.mono h.b.size)).trans (below_grown hg (by have:=h.q.lt;simp;omega) (fun j hj=>by have:=(qq.lt h.o j hj).1;omega))).setCell qJ _
 ·simpa using p1.jB (i:=0) v'
 ·exact qq.kept ho (row:=some (w0.heap.size+1)) ⟨rfl,rfl,rfl,by rw[nblk_setCell];exact Nat.le_refl _,fun j hj hne=>blk_setCell_other _ _ _ _ (by dsimp only;intro e;exact hne (by rw[e]))⟩ (.inr (fun e=>by have:=(qq.lt ho _ e).1;omega))
theorem IZ(ids ups:Nat->Int)(n i:Nat):BZ ids ups n i=(DU ids ups n i).map ids:=rfl
theorem ZY(l:List Nat)(f:Nat->List Nat)(j:Nat)(hj:j<l.length):((l.take j).flatMap f).length+(f l[j]).length<=(l.flatMap f).length:=by
 have e:l=l.take j++(l[j]::l.drop (j+1)):=by simp
 have:l.flatMap f=(l.take j).flatMap f++(f l[j]++(l.drop (j+1)).flatMap f):=by
  conv=>lhs;rw[e]
  rw[List.flatMap_append,List.flatMap_cons]
 rw[this,jU,jU];omega
theorem YY(w0:qM)(B c n:Nat)(ids ups:Nat->Int)(ob off:Nat)(nb:Nat->Nat)(kv:Nat->Value)(hN:Ei w0 B c n ids ob off nb kv (BZ ids ups n))(hr:DK ids n)(h0:∀j,j<n->ids j≠ups 0)
 (hw:∀i,i<n->(Lit.int .i64 (ids i)).wf=true)(hn:n<=271)(f:Nat):
 ∀(i:Nat) (l:List Int) (v:Value) (w:qM),i<n->(∀j m,j<n->Bt ids ups n m j=some i->m<f)->l.length+(Gk ids ups n f i).length<=271->MH w0 c w v l->
  Calls prog 107 #[.int .i64 (ids i),pT (some ⟨w0.heap.size+1,0,none⟩),pT (w0),pT (some ⟨w0.heap.size+1+1,0,none⟩)] w fun e w'=>
   ∃v',e= .returned (.tuple #[])/\MH w0 c w' v' (l++(Gk ids ups n f i).map ids):=by
 have HN:=qC hN;have HR:=qC hr;have H0:=qC h0;have HW:=qC hw;clear hN hr h0 hw;induction f with
 |zero=>intro i l v w hi hh;exact absurd (hh i 0 hi rfl) qQ
 |succ f ih=>
  intro i l v w hi hh hl hk;have IH:=qC ih;have HH:=qC hh;have HK:=qC hk;have hlen:l.length+1<=271:=by simp[Gk]at hl;omega
  have HL:=qC hl;clear ih hh hk hl;have x1:_=some v:=HK.out.p.c0 0 rfl;have L1:=qC (Ec.one (w:=w) (ids i));have n1:Nw (w.alloc (.cells #[.int .i64 (ids i)] 2)):=⟨⟩;have b1:Below w w n1:=Bg w _;have O1:Hid (AI n1 (w0.heap.size+1+1+1) v l):=qC (AI.alloc HK.out.o _);have hs:=HK.out.r.lt;have s1:w0.heap.size+1+1+1<=(n1:qM).heap.size:=by simp;omega
  have P1:Hid (∀w':qM,(n1:qM).grownBy w' v.ownBlock->Ag w' (w0.heap.size+1) (.cells #[v] 51)):=qC (fun w' hg=>(HK.out.p.below b1).grown hg (fun e=>by have:=(qq.lt HK.out.o _ e.symm).1;omega));clear b1;obtain⟨ka,kc,hkv⟩:=CG (HN.out.own i hi);have KV:=qC hkv;clear hkv;have D3:Hid (∀(a3:Option Addr) (c3:Nat) (w3:qM),AI w3 (w0.heap.size+1+1+1) (.slice a3 (l++[ids i]).length c3) (l++[ids i])->(n1:qM).grownBy w3 v.ownBlock->
   MH w0 c (w3.setCell ⟨w0.heap.size+1,0,none⟩ (.slice a3 (l.length+1) c3)) (.slice a3 (l.length+1) c3) (l++[ids i])):=qC (fun a3 c3 w3 o3 g3=>HK.out.push (by simpa using o3) g3)
  have E3:Hid (∀(W:qM) (v':Value) (l':List Int),MH w0 c W v' l'->W.cell? ⟨w0,0,none⟩=some (.map (some c))/\(Instr.lookup 109 (.map (some c)) (.int .i64 (ids i)) false).run prog W= .ok (pT (nb i)) W/\W.cell? ⟨nb i,1,none⟩=some (.slice ka (BZ ids ups n i).length kc)):=qC (fun W v' l' hk=>by
   have N2:=HN.out.below hk.b;have LK:=N2.map.look (HW i hi);rw[Eg HR.out hi]at LK;exact⟨hk.q.c0 0 rfl,LK,by rw[<-KV.out];exact(N2.blk i hi).c0 1 rfl⟩)
  have hm:(BZ ids ups n i).length<=271:=by have:=Li ids ups n i;omega
  go_enter func107,ntmps107
  go_wp2_with(refine Ep _ rfl _ _ rfl (w0.heap.size+1+1+1) v l rfl O1 _ 1 1 [ids i] rfl rfl L1 qQ s1 ?_;intro a3 c3 w3 o3 g3 v3;have p3:=P1.out w3 g3;have z1:_=some v:=p3.c0 0 rfl;have z2:=p3.jC 0;have K2:=qC (D3.out a3 c3 w3 o3 g3);obtain⟨y0,LK,y1⟩:=E3.out _ _ _ K2.out;clear o3 g3 v3 p3)
  clear z1 z2 y0 LK y1 x1 L1 O1 P1 D3 E3 HK s1;generalize w3.setCell ⟨w0.heap.size+1,0,none⟩ (.slice a3 (l.length+1) c3)=W at *;generalize Value.slice a3 (l.length+1) c3=v2 at *;clear hs;have hml:(BZ ids ups n i).length=(DU ids ups n i).length:=by rw[IZ,kX]
  have HML:=qC hml;clear hml;go_loopw [18] (fun t wr=>∃(j:Nat) (v':Value),j<=(BZ ids ups n i).length/\t= .int .i64 j/\Hid (MH w0 c wr v' (l++[ids i]++(((DU ids ups n i).take j).flatMap (Gk ids ups n f)).map ids))) (fun t _=>(BZ ids ups n i).length-(intOf t).toNat)
  case atStart=>exact⟨0,v2,Nat.zero_le _,rfl,qC (by simpa using K2.out)⟩
  case round=>
   obtain⟨j,v',hj,rfl,HWk⟩:=hrel;clear K2;by_cases hlt:j<(BZ ids ups n i).length
   ·have i1:(j:Int)<((BZ ids ups n i).length:Int):=qQ;have i0:(0:Int)<=(j:Int):=qQ;have hj2:j<(DU ids ups n i).length:=(by have:=HML.out;omega);have ow:=(HN.out.below HWk.out.b).own i hi;rw[KV.out]at ow;obtain⟨b,o,rfl,_,hcc⟩:=AI.lies ow qQ;have g1:wr.cell? ⟨b,o+j,none⟩=some (.int .i64 (ids (DU ids ups n i)[j])):=hcc j _ (by simp[IZ,hj2]);have r1:wr.cell? ⟨w0.heap.size+1+1,0,none⟩=some (Oy w0):=HWk.out.r.c0 0 rfl;unfold Oy at r1;obtain⟨k1,k2⟩:=(Gi HR H0 hi).1 (List.getElem_mem hj2);have CK:=qC (IH.out (DU ids ups n i)[j] _ v' wr k1 (fun a m ha e=>by
     have:=HH.out a (m+1) ha (by rw[Ek,e];exact k2);omega) (by
     have h1:=HL.out;have h2:=ZY (DU ids ups n i) (Gk ids ups n f) j hj2;simp only[Gk,kB]at h1;simp only[jU,kX,kB,List.length_nil];omega) HWk)
    have EX:Hid (l++[ids i]++(((DU ids ups n i).take j).flatMap (Gk ids ups n f)).map ids++(Gk ids ups n f (DU ids ups n i)[j]).map ids=l++[ids i]++(((DU ids ups n i).take (j+1)).flatMap (Gk ids ups n f)).map ids):=qC (by
     rw[List.take_succ_eq_append_getElem hj2,List.flatMap_append,List.map_append];simp)
    generalize ids (DU ids ups n i)[j]=y at *;clear hcc ow k1 k2;go_wp2_with(go_at_call 107;refine CK.out.mono ?_;rintro e w4 ⟨v4,rfl,h4⟩;have H4:=qC h4;clear h4)
    have H5:=H4.out;rw[EX.out]at H5;exact⟨⟨j+1,v4,by omega,by go_num,qC H5⟩,by simp[intOf];omega⟩
   ·have e:j=(DU ids ups n i).length:=(by have:=HML.out;omega);have i1:¬(j:Int)<((BZ ids ups n i).length:Int):=qQ;have H5:=HWk.out;rw[e,List.take_length]at H5;have H6:Hid (MH w0 c wr v' (l++(Gk ids ups n (f+1) i).map ids)):=qC (by simpa[Gk]using H5);clear H5 e HWk;go_wp2;exact bodyPost_end (v:= .tuple #[]) (by simp[results,Tryz.results107,go_sem]) rfl ⟨rfl,_,H6⟩
theorem Yi(tmps:Array Value)(W:qM)(P:Nat)(x y:Value)(h:Ag W P (.cells #[x,y] 42))(h2:tmps[2]? =some (.pointer P)):
 (results Tryz.f90 tmps).run prog W= .ok (.agg #[x,y]) W:=by
 obtain⟨z0,z1⟩:=h.two;simp[results,Tryz.results90,go_sem,h2,z0,z1]
theorem AO.madeAt(w:qM)(B:Nat)(hb:B<=w.heap.size)(f g:Nat->Int):AO (w.alloc (.cells #[] 96)) B (.slice (w) 0 0) 0 f g:=World.ownsRow_made w #[] 0 hb (Nat.zero_le _) rfl
theorem AO.newL{w:qM}{B n c:Nat}{a:Option Addr}{f g:Nat->Int}(h:AO w B (.slice a n c) n f g)(hn:n<=1048576):As.new B w ⟨a,n,c,f,g⟩:=
 ⟨⟨by unfold maxLen;simp only;omega,h.cats⟩,fun h0=>DT h h0⟩
theorem CN(b:Int)(c:As)(w:qM)(hc:c.at w)(hn:c.n<=1048576):
 Calls prog 90 #[.agg #[.int .i64 b,c.val]] w fun e w'=>∃d:As,e= .returned (.agg #[.int .i64 b,d.val])/\c.same d/\d.new w w'/\Below w w w':=by
 obtain⟨a,n,cap,f,g⟩:=c;unfold As.val;simp only at hn ⊢;have n1:No (.cells #[.int .i64 0,.slice none 0 0] 42):=⟨⟩;have n2:No (.cells #[.int .i64 b,.slice a n cap] 42):=⟨⟩;have b0:Below w w ((w.alloc n2).alloc n1):=(Bg w _).alloc sI _;have A0:=(Ag.new w n2).alloc n1;have R0:Ag ((w.alloc n2).alloc n1) (w.heap.size+1) n1:=by
  have:=Ag.new (w.alloc n2) n1;simpa using this
 have T0:=qC (hc.below b0).2;simp only at T0;obtain⟨x0,x1⟩:=A0.two;clear hc;go_enter func90,ntmps90
 go_wp2;generalize hV:((w.alloc n2).alloc n1)=V at *;have n3:Nw (V.alloc (.cells #[] 96)):=⟨⟩;have bm:Below V V ((n3:qM).drew):=Az (Bg V _);have n4:Nv (.slice (V) 0 0):=⟨⟩;have OM:Hid (AO ((n3:qM).drew) w n4 0 f g):=qC (AO.madeAt V w b0.size f g);have TM:=qC (T0.out.below bm);have s1:w.heap.size<=((n3:qM).drew).heap.size:=(Af b0 bm).size;have lm:n<=4194304:=by omega
 have R1:=qC (R0.below bm);have B1:=qC (Af b0 bm);obtain⟨y0,y1⟩:=(A0.alloc (.cells #[] 96)).two;have px:¬w.heap.size=V.heap.size:=by have:=A0.lt;omega
 have vlt:w.heap.size+1<V.heap.size:=R0.lt;have RG:Hid (∀w3:qM,((n3:qM).drew).grownBy w3 (some V)->Ag w3 (w.heap.size+1) n1):=qC (fun w3 g3=>R1.out.grown g3 sO);have A1:=qC (A0.below bm);have AG:Hid (∀w3:qM,((n3:qM).drew).grownBy w3 (some V)->Ag w3 w n2):=qC (fun w3 g3=>A1.out.grown g3 sO);clear hV bm A0 R0 T0;go_region_law(refine If _ qK _ _ qK w n4 f g qK OM a n cap f g qK TM lm s1 ?_;intro a3 c3 w3 o3 g3 v3;have O3:=qC o3;have G3:=qC g3;have RR:=qC (RG.out w3 g3);obtain⟨r0,r1⟩:=RR.out.two;have rf:=RR.out.jC;obtain⟨q0,q1⟩:=(AG w3 g3).two;clear o3 g3 v3)
 all_goals(
  have B3:Hid (Below w w w3):=qC (B1.out.trans (below_grown G3 B1.out.size (fun j hj=>by cases hj;show w.heap.size<=V.heap.size;omega)));have N3:=qC (O3.out.newL hn);clear G3 O3 OM TM RG x0 x1 y0 y1 q0 q1 AG A1;go_wp2;refine bodyPost_ret (Yi _ _ (w.heap.size+1) (.int .i64 b) (.slice a3 n c3) ((RR.out.jB (i:=0) _).jB (i:=1) _) rfl) rfl ⟨⟨a3,n,c3,f,g⟩,rfl,⟨rfl,rfl,rfl⟩,?_,?_⟩
  ·refine N3.out.of sI (fun q hq hn'=>?_);have q2:=N3.out.ne RR qX q hq hn';iterate 2 rw[blk_setCell_other _ _ _ _ qJ]
  ·iterate 2 refine Below.setCell ?_ qJ _
   exact B3.out)
variable {w w':World}{a:Option Addr}{b n B lo hi:Nat}{row:Option Nat}{v:Value}{l:List Int}
theorem Br{a b:World}{P:Nat}(h:a.grownBy b (some P))(i:Nat)(v:Value):a.grownBy (b.setCell ⟨P,i,none⟩ v) (some P):=
 ⟨h.os,h.tape,h.output,by rw[nblk_setCell];exact h.size,fun j hj hne=>(blk_setCell_other _ _ _ _ (by dsimp only;intro e;exact hne (by rw[e]))).trans (h.block j hj hne)⟩
theorem Bi(a:World)(P:Nat):a.grownBy a (some P):=⟨rfl,rfl,rfl,Nat.le_refl _,fun _ _ _=>rfl⟩
def SQ(w:World)(a:Option Addr)(b n:Nat):Prop:=0<n->a=some ⟨b,0,none⟩/\∃m F,n<=m/\w.rowIs b 2 m F
theorem SQ.below(h:SQ w a b n)(hb:Below w w w'):SQ w' a b n:=fun h0=>by
 obtain⟨e,m,F,hm,hr⟩:=h h0;exact⟨e,m,F,hm,hr.of_block (hb.block b hr.lt)⟩
theorem SQ.grown(h:SQ w a b n)(hg:w.grownBy w' row)(hne:some b≠row):SQ w' a b n:=fun h0=>by
 obtain⟨e,m,F,hm,hr⟩:=h h0;exact⟨e,m,F,hm,hr.of_block (hg.block b hr.lt hne)⟩
theorem SQ.lt(h:SQ w a b n)(h0:0<n):b<w.heap.size:=by
 obtain⟨_,m,F,_,hr⟩:=h h0;exact hr.lt
theorem Bp.grown{h:Nat->Int}(hc:Bp w a n h)(hr:SQ w a b n)(hg:w.grownBy w' row)(hne:0<n->some b≠row):Bp w' a n h:=fun h0=>by
 obtain⟨b',off,e,hlt,hcc⟩:=hc h0;obtain⟨e2,m,F,hm,hrow⟩:=hr h0;have e3:=e.symm.trans e2;simp only[Option.some.injEq,Addr.mk.injEq]at e3;obtain⟨rfl,_,_⟩:=e3;refine⟨b',off,e,qv hlt hg.size,fun i hi=>?_⟩;have hb:=hg.block b' hlt (hne h0);exact(by simp only[World.cell?];rw[hb]:w'.cell? ⟨b',off+i,none⟩=w.cell? ⟨b',off+i,none⟩).trans (hcc i hi)
theorem AI.of_block(h:AI w B v l)(hb:∀g,v.ownBlock=some g->w'.heap[g]? =w.heap[g]?):AI w' B v l:=by
 refine⟨h.1,?_⟩;rcases h.2 with hn|⟨g,cap,cur,rfl,h1,h2,rest⟩
 ·exact .inl hn
 ·exact .inr ⟨g,cap,cur,rfl,h1,(hb g rfl).trans h2,rest⟩
theorem AI.below(h:AI w B v l)(hb:Below w w w'):AI w' B v l:=h.of_block fun g hg=>hb.block g (qq.lt h g hg).2
theorem AI.mk(h:AI w B v l)(hm:Mk lo hi w w')(hb:∀g,v.ownBlock=some g->g<lo∨hi<=g):AI w' B v l:=h.of_block fun g hg=>hm.block g (qq.lt h g hg).2 (hb g hg)
theorem Mk.below{w0:World}(h0:Below w0 w0 w)(h:Mk lo hi w w')(hB:w0.heap.size<=lo):Below w0 w0 w':=
 ⟨h.os.trans h0.os,h.tape.trans h0.tape,h.output.trans h0.output,Nat.le_trans h0.size h.size,fun k hk=>(h.block k (qv hk h0.size) (.inl qQ)).trans (h0.block k hk)⟩
end Go.Proofs.YtdaccbddcjlkpaaGreatDoor
