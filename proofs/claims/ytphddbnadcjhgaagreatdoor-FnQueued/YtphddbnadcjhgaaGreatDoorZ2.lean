import Derived.Test.YtphddbnadcjhgaaGreatDoorZ1
set_option maxRecDepth 100000
set_option maxHeartbeats 4000000
namespace Go.Proofs.YtphddbnadcjhgaaGreatDoor
open Go.RowKit Go.Deep Go.Maps Go.Proofs.Tryz
theorem Bj.below{w w':World}{b n:Nat}{m:Int->Option Int}(h:Bj w b n m)(hb:Below w w w'):Bj w' b n m:=h.of_block (hb.block b h.lt)
theorem Hd{x:Int}(h0: -9223372036854775808<=x)(h1:x<=9223372036854775807):(Lit.int .i64 x).wf=true:=WalkArith.wf_i64 ⟨h0,h1⟩
theorem OV{x:Int}(h:(Lit.int .i64 x).wf=true): -9223372036854775808<=x/\x<=9223372036854775807:=by
 simp only[Lit.wf,Bool.and_eq_true,decide_eq_true_eq]at h;have e1:IntKind.i64.min= -9223372036854775808:=rfl;have e2:IntKind.i64.max=9223372036854775807:=rfl;omega
theorem Bj.look{w:World}{b n:Nat}{m:Int->Option Int}{x:Int}(h:Bj w b n m)(hx:(Lit.int .i64 x).wf=true):
 (Instr.lookup 155 (.map (some b)) (.int .i64 x) false).run prog w= .ok (.int .i64 ((m x).getD 0)) w:=by
 obtain⟨D,hown,hD,hall⟩:=h;obtain⟨c,hrun,hat,_⟩:=hown.lookup_int GQ underlying155 underlying2 (YY _) (keyOf_int_mk underlying2 hx);obtain⟨h1,h2⟩:=hall x;rw[hrun];cases hm:m x with
 |none=>
  have:Maps.has D (.int .i64 x)=false:=by rw[h1,hm];rfl
  rw[atKey_of_not_has this]at hat;simp at hat;simp[<-hat]
 |some v=>
  have:=(h2 v hm).symm.trans hat;simp at this;simp[this]
def madeOf(n:Nat)(T:Nat->Ac)(x:Int):Int:=(look (fun i=>(T i).id) (fun i=>(T i).made) n x).getD 0
def Ex(n:Nat)(T:Nat->Ac)(id:Int):Bool:=decide (1<=id%1000)&&decide (id%1000<=madeOf n T (id/1000))
def FX(n:Nat)(T:Nat->Ac)(m:Nat)(O:Nat->Ab):Bool:=(List.range (m-1)).all (fun i=>Ex n T (O (i+1)).id)
theorem Cp{n:Nat}{T:Nat->Ac}(h:Bo n T=true):1<=n/\n<=9/\∀i,i<n->Dq T i=true:=by
 simp only[Bo,Bool.and_eq_true,decide_eq_true_eq]at h;exact⟨h.1.1,h.1.2,Eo h.2⟩
theorem MJ{T:Nat->Ac}{i:Nat}(h:Dq T i=true):Cn (T i)=true:=by
 simp only[Dq,Bool.and_eq_true]at h;exact h.1
theorem Jo{t:Ac}(h:Cn t=true):0<=t.made/\t.made<=30:=by
 unfold Cn De at h;simp only[Bool.and_eq_true]at h;exact Cl.1 (by simp_all)
theorem Bv{n:Nat}{O:Nat->Ab}(h:BU n O=true):1<=n/\n<=271/\(∀i,i<n->Fe O i=true)/\Fo (O 0)=true:=by
 simp only[BU,Bool.and_eq_true,decide_eq_true_eq]at h;exact⟨h.1.1.1,h.1.1.2,Eo h.1.2,h.2⟩
theorem Bt{n:Nat}{O:Nat->Ab}(h:BU n O=true):Db (fun i=>(O i).id) n:=by
 obtain⟨_,_,ha,_⟩:=Bv h;intro i j hij;induction j with
 |zero=>omega
 |succ j ih=>
  intro hj;have h1:=ha (j+1) hj;simp[Fe]at h1;by_cases e:i=j
  ·subst e;exact h1.2
  ·have:=ih (by omega) (by omega);simp only at this ⊢;omega
theorem Cg{n:Nat}{O:Nat->Ab}(h:BU n O=true):(O 0).id=1/\(O 0).kind=3/\(O 0).up=0:=by
 obtain⟨_,_,_,hr⟩:=Bv h;simp only[Fo,Bool.and_eq_true,beq_iff_eq]at hr;exact⟨hr.1.1,hr.1.2,hr.2⟩
theorem D4{n:Nat}{O:Nat->Ab}(h:BU n O=true):∀i,i<n->1<=(O i).id:=by
 intro i hi;have hr:=(Cg h).1;by_cases e:i=0
 ·subst e;omega
 ·have:=Bt h 0 i (by omega) hi;simp only at this;omega
theorem Od(k:Aq)(w:World)(hk:k.at w)(hcap:k.on<=k.ok)(h1:Bo k.tn k.T=true)(h2:BU k.on k.O=true)(hw:∀i,i<k.on->(Lit.int .i64 (k.O i).id).wf=true):
 Calls prog 57 #[k.val] w fun e w'=>e= .returned (.bool (FX k.tn k.T k.on k.O))/\Below w w w':=by
 have hmm:=@run_makeMap prog;obtain⟨ta,tn,tk,T,oa,on,ok,O⟩:=k;obtain⟨_,_,hT,hO⟩:=hk;unfold Aq.val;simp only at h1 h2 hw hT hO hcap ⊢;obtain⟨tn1,tn9,tall⟩:=Cp h1;obtain⟨on1,on2,_,_⟩:=Bv h2;have HT:=hid hT;have HO:=hid hO;obtain⟨tb,toff,rfl,_,_⟩:=hT (by omega);obtain⟨ob,ooff,rfl,_,_⟩:=hO (by omega);have HP:=hid (D4 h2);have HW:=hid hw;have HA:=hid tall;clear h1 h2 hw tall hT hO;have n2:Na #[.slice (some ⟨tb,toff,none⟩) tn tk,.slice (some ⟨ob,ooff,none⟩) on ok]:=⟨⟩;have hb0:=(Below.refl _ w).alloc (Nat.le_refl _) (.cells n2 27);have A0:=Ah.new w (.cells n2 27);have hb1:=Af hb0 ((Below.refl _ _).alloc (Nat.le_refl _) (.map #[] 0));have A1:=A0.alloc (.map #[] 0);have M0:=Bj.made (w.alloc (.cells n2 27));go_enter func57,ntmps57
 go_wp2;generalize hW:((w.alloc (Obj.cells n2 27)).alloc (Obj.map #[] 0))=W at *;have M1:Bj W (w.heap.size+1) 0 (look (fun i=>(T i).id) (fun i=>(T i).made) 0):=by simpa[look]using M0
 clear M0 hb0 A0 hmm hW;go_loopw [13] (fun i wr=>∃j:Nat,j<=tn/\i= .int .i64 j/\Bj wr (w.heap.size+1) j (look (fun i=>(T i).id) (fun i=>(T i).made) j)/\Ah wr w (.cells n2 27)/\Below w w wr) (fun i _=>tn-(intOf i).toNat)
 case atStart=>exact⟨0,Nat.zero_le _,rfl,M1,A1,hb1⟩
 case round=>
  obtain⟨j,hj,rfl,HM,A,hB⟩:=hrel;clear M1 A1 hb1;by_cases hlt:j<tn
  ·obtain⟨_,_,ea,hlt0,hcc⟩:=HT.out.below hB (by omega);cases ea;obtain⟨⟨q0,q1,q2,q3,q4,q5,q6⟩,ht⟩:=hcc j hlt;have i1:(j:Int)<(tn:Int):=(by omega);have t1:=MJ (HA j hlt);have hkey:keyOf prog 2 (.int .i64 (T j).id)=some (.int .i64 (T j).id):=keyOf_int_mk underlying2 (Hd (by have:=JB t1;omega) (by have:=JB t1;omega));have W2:Hid ((Lit.int .i64 (T j).made).wf=true):=Hd (by have:=Jo t1;omega) (by have:=Jo t1;omega);have hlm:=HM.lt;obtain⟨D,hown,hD,hm⟩:=HM;simp only[Av.val,AI.val]at q2 q4 q5;clear hcc ht t1;go_wp2_with(at_mapUpdate;refine wpList_mapUpdate_own _ rfl _ _ _ 155 rfl 2 2 GQ underlying155 _ (w.heap.size+1) j _ rfl (hown.alloc _) (by unfold maxLen;omega) _ _ _ rfl rfl hkey _ [] (plainElem_int underlying2 W2) ?_;intro w1 hown1 hgrow1)
   have hm1:=Bj.put (k:=(T j).id) (v:=(T j).made) hD hm;rw[Mh (fun i=>(T i).id) (fun i=>(T i).made) j]at hm1;have A3:=A.alloc (.cells #[.int .i64 (T j).id,.int .i64 (T j).b1,.slice (T j).c1.a (T j).c1.n (T j).c1.k,.int .i64 (T j).b2,.slice (T j).c2.a (T j).c2.n (T j).c2.k,.slice (T j).own.a (T j).own.n (T j).own.k,.int .i64 (T j).made] 68);refine⟨⟨j+1,by omega,by go_num,⟨_,hown1,hm1.1,hm1.2⟩,?_,?_⟩,by simp[intOf];omega⟩
   ·exact(hgrow1.block _ A3.lt (by simp)).trans A3
   ·exact(hB.alloc hB.size _).grown hgrow1 (by simp;omega) (fun i hi=>by cases hi;omega)
  ·have e:j=tn:=(by omega);subst e;have i1:¬(j:Int)<(j:Int):=(by omega);obtain⟨y0,y1⟩:=A.two;have c1:(on:Int)<=(ok:Int):=(by omega);have c2:(1:Int)<=(on:Int):=(by omega);clear HT HA y0;by_cases hok:ok=1
   ·obtain rfl:on=1:=by omega
    subst hok;go_wp2;go_loopw [27] (fun i wr'=>i= .int .i64 0/\Below w w wr') (fun i _=>0)
    case atStart=>exact⟨rfl,hB⟩
    case round=>
     obtain⟨rfl,hB'⟩:=hrel;go_wp2;go_ret;exact⟨Ag (by simp[FX]),hB'⟩
   ·go_wp2;go_loopw [27] (fun i wr'=>∃q:Nat,q<=on-1/\i= .int .i64 q/\Hid (∀p,p<q->Ex j T (O (p+1)).id=true)/\Bj wr' (w.heap.size+1) j (look (fun i=>(T i).id) (fun i=>(T i).made) j)/\Below w w wr') (fun i _=>on-1-(intOf i).toNat)
    case atStart=>exact⟨0,Nat.zero_le _,rfl,hid (fun p hp=>by omega),HM,hB⟩
    case round=>
    obtain⟨q,hq,rfl,HN,HM',hB'⟩:=hrel;clear y1 A hB HM;by_cases hlt2:q<on-1
    ·obtain⟨_,_,ea,hlt0,hcc⟩:=HO.out.below hB' (by omega);cases ea;obtain⟨⟨q0,q1,q2,q3,q4,q5,q6,q7,q8,q9⟩,ht⟩:=hcc (q+1) (by omega);have ei:ooff+(q+1)*10=ooff+10+q*10:=(by omega);rw[ei]at q0 q1 q2 q3 q4 q5 q6 q7 q8 q9;have i2:(q:Int)<((on-1:Nat):Int):=(by omega);have hp:=HP.out (q+1) (by omega);simp only[Av.val,AI.val,As.val]at q4 q6 q7 q9;have hww:=HW.out (q+1) (by omega);have hwb:=OV hww;have ed:wrap64 ((O (q+1)).id.tdiv 1000)=(O (q+1)).id/1000:=by
      rw[Int.tdiv_eq_ediv_of_nonneg (by omega)];unfold wrap64;omega
     have n1:No (.cells #[.int .i64 (O (q+1)).id,.int .i64 (O (q+1)).kind,.int .i64 (O (q+1)).up,.int .i64 (O (q+1)).b1,.slice (O (q+1)).c1.a (O (q+1)).c1.n (O (q+1)).c1.k,.string (O (q+1)).data,.slice (O (q+1)).items.a (O (q+1)).items.n (O (q+1)).items.k,.slice (O (q+1)).own.a (O (q+1)).own.n (O (q+1)).own.k,.int .i64 (O (q+1)).b2,.slice (O (q+1)).c2.a (O (q+1)).c2.n (O (q+1)).c2.k] 40):=⟨⟩;have LK:=(HM'.alloc n1).look (x:=(O (q+1)).id/1000) (Hd (by omega) (by omega));have em:((look (fun i=>(T i).id) (fun i=>(T i).made) j ((O (q+1)).id/1000)).getD 0)=madeOf j T ((O (q+1)).id/1000):=rfl;rw[em]at LK;have HMa:=HM'.alloc n1;clear hcc ht ei em hww hwb;go_wp2
     ·go_ret;have t1:madeOf j T ((O (q+1)).id/1000)<(O (q+1)).id%1000:=(by omega);refine⟨Ag ?_,hB'.alloc hB'.size _⟩;rw[FX,Gi hlt2];have:decide ((O (q+1)).id%1000<=madeOf j T ((O (q+1)).id/1000))=false:=(by simp;omega);simp[Ex,this]
     ·have t1:(O (q+1)).id%1000<=madeOf j T ((O (q+1)).id/1000):=(by omega);have t0:1<=(O (q+1)).id%1000:=(by assumption);refine⟨⟨q+1,by omega,by go_num,hid (fun p hp=>?_),HMa,hB'.alloc hB'.size _⟩,by simp[intOf];omega⟩;by_cases e:p=q
      ·subst e;simp[Ex,t0,t1]
      ·exact HN.out p (by omega)
     ·go_ret;have t1:(O (q+1)).id%1000<1:=(by assumption);refine⟨Ag ?_,hB'.alloc hB'.size _⟩;rw[FX,Gi hlt2];have:decide (1<=(O (q+1)).id%1000)=false:=(by simp;omega);simp[Ex,this]
    ·have e:q=on-1:=(by omega);subst e;go_wp2;go_ret;exact⟨Ag (by rw[FX,DK HN.out]),hB'⟩
open Go
def FV:Option Nat->Int
 |none=> -1
 |some j=>j
theorem Im{ids:Nat->Int}{n k:Nat}{x:Int}(hk:k<n)(he:ids k=x)(h:∀j,j<k->ids j≠x):Bg ids n x=some k:=by
 unfold Bg;rw[List.find?_range_eq_some];exact⟨by simpa using he,List.mem_range.2 hk,fun j hj=>by simpa using h j hj⟩
theorem JL{ids:Nat->Int}{n:Nat}{x:Int}(h:∀j,j<n->ids j≠x):Bg ids n x=none:=by
 unfold Bg;rw[List.find?_eq_none];intro j hj;simpa using h j (List.mem_range.1 hj)
theorem Jq(k:Aq)(x:Int)(w:World)(hk:k.at w):
 Calls prog 47 #[k.val,.int .i64 x] w fun e w'=>e= .returned (.int .i64 (FV (Bg (fun i=>(k.O i).id) k.on x)))/\Below w w w':=by
 have n1:No (.cells #[.slice k.ta k.tn k.tk,.slice k.oa k.on k.ok] 27):=⟨⟩;have hb0:=(Below.refl _ w).alloc (Nat.le_refl _) n1;have A0:=Ah.new w n1;have HT:=hid (hk.below hb0);have hn:=hk.2.1;unfold maxLen at hn;unfold Aq.val;obtain⟨x0,x1⟩:=A0.two;clear hk A0;go_enter func47,ntmps47
 go_wp2;generalize w.alloc n1=W at *;go_loop [5] (fun i=>∃q:Nat,q<=k.on/\i= .int .i64 q/\Hid (∀j,j<q->(k.O j).id≠x)) (fun i=>k.on-(intOf i).toNat)
 case atStart=>exact⟨0,Nat.zero_le _,rfl,hid (fun j hj=>by omega)⟩
 case round=>
  obtain⟨q,hq,rfl,HA⟩:=hrel;by_cases hlt:q<k.on
  ·obtain⟨b,off,ea,_,hcc⟩:=HT.out.2.2.2 (by omega);have q0:=(hcc q hlt).1.c0;have i1:(q:Int)<(k.on:Int):=(by omega);rw[ea]at x1;clear hcc ea;by_cases e:(k.O q).id=x
   ·have HF:=hid (Im (ids:=fun i=>(k.O i).id) hlt e HA);have e':((k.O q).id==x)=true:=(by simpa using e);clear e HA;go_wp2;go_ret;exact⟨En (by rw[HF.out];rfl),hb0⟩
   ·have e':((k.O q).id==x)=false:=(by simpa using e);have HA2:Hid (∀j,j<q+1->(k.O j).id≠x):=hid (fun j hj=>by
     by_cases ej:j=q
     ·subst ej;exact e
     ·exact HA.out j (by omega))
    clear e HA;go_wp2;exact⟨⟨q+1,by omega,by go_num,HA2⟩,by simp[intOf];omega⟩
  ·have i1:¬(q:Int)<(k.on:Int):=(by omega);have HF:=hid (JL (ids:=fun i=>(k.O i).id) (n:=k.on) (x:=x) (fun j hj=>HA j (by omega)));clear HA;go_wp2;go_ret;exact⟨En (by rw[HF.out];rfl),hb0⟩
theorem Hl(k:Aq)(x:Int)(w:World)(hk:k.at w):
 Calls prog 31 #[k.val,.int .i64 x] w fun e w'=>e= .returned (.int .i64 (FV (Bg (fun i=>(k.T i).id) k.tn x)))/\Below w w w':=by
 have n1:No (.cells #[.slice k.ta k.tn k.tk,.slice k.oa k.on k.ok] 27):=⟨⟩;have hb0:=(Below.refl _ w).alloc (Nat.le_refl _) n1;have A0:=Ah.new w n1;have HT:=hid (hk.below hb0);have hn:=hk.1;unfold maxLen at hn;unfold Aq.val;obtain⟨x0,x1⟩:=A0.two;clear hk A0;go_enter func31,ntmps31
 go_wp2;generalize w.alloc n1=W at *;go_loop [5] (fun i=>∃q:Nat,q<=k.tn/\i= .int .i64 q/\Hid (∀j,j<q->(k.T j).id≠x)) (fun i=>k.tn-(intOf i).toNat)
 case atStart=>exact⟨0,Nat.zero_le _,rfl,hid (fun j hj=>by omega)⟩
 case round=>
  obtain⟨q,hq,rfl,HA⟩:=hrel;by_cases hlt:q<k.tn
  ·obtain⟨b,off,ea,_,hcc⟩:=HT.out.2.2.1 (by omega);have q0:=(hcc q hlt).1.c0;have i1:(q:Int)<(k.tn:Int):=(by omega);rw[ea]at x0;clear hcc ea;by_cases e:(k.T q).id=x
   ·have HF:=hid (Im (ids:=fun i=>(k.T i).id) hlt e HA);have e':((k.T q).id==x)=true:=(by simpa using e);clear e HA;go_wp2;go_ret;exact⟨En (by rw[HF.out];rfl),hb0⟩
   ·have e':((k.T q).id==x)=false:=(by simpa using e);have HA2:Hid (∀j,j<q+1->(k.T j).id≠x):=hid (fun j hj=>by
     by_cases ej:j=q
     ·subst ej;exact e
     ·exact HA.out j (by omega))
    clear e HA;go_wp2;exact⟨⟨q+1,by omega,by go_num,HA2⟩,by simp[intOf];omega⟩
  ·have i1:¬(q:Int)<(k.tn:Int):=(by omega);have HF:=hid (JL (ids:=fun i=>(k.T i).id) (n:=k.tn) (x:=x) (fun j hj=>HA j (by omega)));clear HA;go_wp2;go_ret;exact⟨En (by rw[HF.out];rfl),hb0⟩
def Ev(n:Nat)(O:Nat->Ab)(x:Int):Bool:=match Bg (fun i=>(O i).id) n x with
 |some u=>(O u).kind==3
 |none=>false
def Hf(n:Nat)(O:Nat->Ab):Bool:=(List.range (n-1)).all (fun i=>Ev n O (O (i+1)).up)
def AZ(k:Aq):Bool:=Bo k.tn k.T&&BU k.on k.O&&FX k.tn k.T k.on k.O&&Hf k.on k.O&&Ek (fun i=>(k.O i).id) (fun i=>(k.O i).up) k.on
def Gw(k:Aq)(i:Nat):Bool:=BZ (k.O i)&&(if i=0 then Fo (k.O 0)else decide ((k.O (i-1)).id<(k.O i).id)&&Ex k.tn k.T (k.O i).id&&Ev k.on k.O (k.O i).up)
theorem QC{k:Aq}(h1:1<=k.on)(h2:k.on<=271):(BU k.on k.O&&FX k.tn k.T k.on k.O&&Hf k.on k.O)=(List.range k.on).all (Gw k):=by
 rw[Bool.eq_iff_iff];simp only[Bool.and_eq_true];constructor
 ·rintro⟨⟨ho,hn⟩,hu⟩;obtain⟨_,_,ha,hr⟩:=Bv ho;refine DK fun i hi=>?_;have hai:=ha i hi;simp only[Fe,Bool.and_eq_true]at hai;simp only[Gw,hai.1,Bool.true_and];by_cases e:i=0
  ·rw[if_pos e];exact hr
  ·rw[if_neg e]at hai ⊢;have e1:i-1+1=i:=(by omega);have h3:=Eo hn (i-1) (by omega);have h4:=Eo hu (i-1) (by omega);simp only[e1]at h3 h4;simp only[hai.2,h3,h4,Bool.and_true]
 ·intro h;have ha:=Eo h;have h0:=ha 0 (by omega);simp only[Gw,if_true,Bool.and_eq_true]at h0;refine⟨⟨?_,?_⟩,?_⟩
  ·have:(List.range k.on).all (Fe k.O)=true:=DK fun i hi=>by
    have hi':=ha i hi;simp only[Gw,Bool.and_eq_true]at hi';simp only[Fe,hi'.1,Bool.true_and];by_cases e:i=0
    ·rw[if_pos e];have:=h0.2;simp only[Fo,Bool.and_eq_true,beq_iff_eq]at this;simp[this.1.1]
    ·rw[if_neg e]at hi' ⊢;simp only[Bool.and_eq_true]at hi';exact hi'.2.1.1
   simp only[BU,this,h0.2,Bool.and_true,Bool.and_eq_true,decide_eq_true_eq];exact⟨h1,h2⟩
  ·refine DK fun i hi=>?_;have hi':=ha (i+1) (by omega);simp only[Gw,Bool.and_eq_true]at hi';rw[if_neg (by omega)]at hi';simp only[Bool.and_eq_true]at hi';exact hi'.2.1.2
  ·refine DK fun i hi=>?_;have hi':=ha (i+1) (by omega);simp only[Gw,Bool.and_eq_true]at hi';rw[if_neg (by omega)]at hi';simp only[Bool.and_eq_true]at hi';exact hi'.2.2
theorem Ig{k:Aq}(ht:Bo k.tn k.T=true)(h1:1<=k.on)(h2:k.on<=271):AZ k=((List.range k.on).all (Gw k)&&Ek (fun i=>(k.O i).id) (fun i=>(k.O i).up) k.on):=by
 rw[AZ,ht,<-QC h1 h2];simp[Bool.and_assoc]
theorem Gg{k:Aq}(ht:Bo k.tn k.T=false):AZ k=false:=by simp[AZ,ht]
theorem Hi{k:Aq}(h:¬(1<=k.on/\k.on<=271)):AZ k=false:=by
 have:BU k.on k.O=false:=by
  cases e:BU k.on k.O with
  |false=>rfl
  |true=>obtain⟨a,b,_⟩:=Bv e;exact absurd ⟨a,b⟩ h
 simp[AZ,this]
theorem IU{n:Nat}{T:Nat->Ac}(h:Bo n T=true):Db (fun i=>(T i).id) n:=by
 obtain⟨_,_,ha⟩:=Cp h;intro i j hij;induction j with
 |zero=>omega
 |succ j ih=>
  intro hj;have h1:=ha (j+1) hj;simp[Dq]at h1;by_cases e:i=j
  ·subst e;exact h1.2
  ·have:=ih (by omega) (by omega);simp only at this ⊢;omega
theorem Ou{ids g:Nat->Int}{n:Nat}(h:Db ids n)(x:Int):look ids g n x=(Bg ids n x).map g:=by
 induction n with
 |zero=>rfl
 |succ n ih=>
  have ih':=ih (fun i j hij hj=>h i j hij (by omega));rw[look];split
  ·rename_i e;rw[<-e,Dj h (Nat.lt_succ_self n)];rfl
  ·rename_i e;rw[ih'];congr 1;cases e1:Bg ids n x with
   |none=>
    symm;refine JL fun j hj=>?_;by_cases ej:j=n
    ·subst ej;exact e
    ·exact Ht e1 j (by omega)
   |some j=>
    obtain⟨j1,j2⟩:=AE e1;symm;rw[<-j2];exact Dj h (by omega)
theorem Hr{n:Nat}{T:Nat->Ac}(h:Bo n T=true){id:Int}{t:Nat}(e:Bg (fun i=>(T i).id) n (id/1000)=some t):Ex n T id=Ds (id%1000) 1 (T t).made:=by
 have:madeOf n T (id/1000)=(T t).made:=by
  unfold madeOf;rw[Ou (IU h),e];rfl
 simp[Ex,this,Ds]
theorem Jk{n:Nat}{T:Nat->Ac}(h:Bo n T=true){id:Int}(e:Bg (fun i=>(T i).id) n (id/1000)=none):Ex n T id=false:=by
 have:madeOf n T (id/1000)=0:=by
  unfold madeOf;rw[Ou (IU h),e];rfl
 simp[Ex,this];intro _;omega
theorem Zg{k:Aq}{i:Nat}(h:∀j,j<i->Gw k j=true)(h0:0<i)(hl:(k.O (i-1)).id<(k.O i).id):1<=(k.O i).id:=by
 have:∀j,j<i->1<=(k.O j).id:=by
  intro j;induction j with
  |zero=>
   intro hj;have:=h 0 hj;simp only[Gw,if_true,Bool.and_eq_true,Fo,beq_iff_eq]at this;omega
  |succ j ih=>
   intro hj;have h1:=ih (by omega);have:=h (j+1) hj;simp only[Gw,Bool.and_eq_true]at this;rw[if_neg (by omega)]at this;simp only[Bool.and_eq_true,decide_eq_true_eq,Nat.add_sub_cancel]at this;omega
 have:=this (i-1) (by omega);omega
def Av.same(c d:Av):Prop:=d.n=c.n/\d.f=c.f/\d.g=c.g
def AI.same(c d:AI):Prop:=d.n=c.n/\d.h=c.h
def Ac.same(t u:Ac):Prop:=u.id=t.id/\u.b1=t.b1/\t.c1.same u.c1/\u.b2=t.b2/\t.c2.same u.c2/\t.own.same u.own/\u.made=t.made
def Av.row(w:World)(c:Av):Prop:=∃b,c.a=some ⟨b,0,none⟩/\w.rowIs b 118 (c.n*2) (CR c.f c.g)
def AI.row(w:World)(c:AI):Prop:=∃b,c.a=some ⟨b,0,none⟩/\w.rowIs b 2 c.n (fun i=> .int .i64 (c.h i))
def Ac.row(w:World)(t:Ac):Prop:=t.c1.row w/\t.c2.row w/\t.own.row w
theorem Lj{w w':World}{b ty N:Nat}{G:Nat->Value}(h:w.rowIs b ty N G)(hb:Below w w w'):w'.rowIs b ty N G:=h.of_block (hb.block b h.lt)
theorem Fi{w:World}{b b' t t' N N':Nat}{G G':Nat->Value}(h:w.rowIs b t N G)(h':w.rowIs b' t' N' G')(ht:t≠t'):b≠b':=fun e=>by
 subst e;obtain⟨c,e1,_⟩:=h;obtain⟨c',e2,_⟩:=h';rw[e1]at e2;simp only[Option.some.injEq,Obj.cells.injEq]at e2;exact ht e2.2.1
theorem Av.row.below{w w':World}{c:Av}(h:c.row w)(hb:Below w w w'):c.row w':=by
 obtain⟨b,e,hr⟩:=h;exact⟨b,e,Lj hr hb⟩
theorem AI.row.below{w w':World}{c:AI}(h:c.row w)(hb:Below w w w'):c.row w':=by
 obtain⟨b,e,hr⟩:=h;exact⟨b,e,Lj hr hb⟩
theorem Ac.row.below{w w':World}{t:Ac}(h:t.row w)(hb:Below w w w'):t.row w':=⟨Av.row.below h.1 hb,Av.row.below h.2.1 hb,AI.row.below h.2.2 hb⟩
theorem Ac.row.put{w:World}{t:Ac}{P ty N:Nat}{G:Nat->Value}(h:t.row w)(hP:w.rowIs P ty N G)(h1:ty≠118)(h2:ty≠2)(i:Nat)(v:Value):t.row (w.setCell ⟨P,i,none⟩ v):=by
 obtain⟨⟨b1,e1,r1⟩,⟨b2,e2,r2⟩,⟨b3,e3,r3⟩⟩:=h;exact⟨⟨b1,e1,r1.setOther (Fi r1 hP h1.symm) v⟩,⟨b2,e2,r2.setOther (Fi r2 hP h1.symm) v⟩,⟨b3,e3,r3.setOther (Fi r3 hP h2.symm) v⟩⟩
theorem Ac.row.at{w:World}{t:Ac}(h:t.row w)(hs:t.small):t.at w:=by
 obtain⟨⟨b1,e1,r1⟩,⟨b2,e2,r2⟩,⟨b3,e3,r3⟩⟩:=h;refine⟨⟨by unfold maxLen;have:=hs.1;omega,?_⟩,⟨by unfold maxLen;have:=hs.2.1;omega,?_⟩,⟨by unfold maxLen;have:=hs.2.2;omega,?_⟩⟩
 ·rw[e1];exact AL.row r1
 ·rw[e2];exact AL.row r2
 ·rw[e3];exact Be.row r3
structure G7(G:Nat->Value)(o:Nat)(t:Ac):Prop where
 g0:G o= .int .i64 t.id
 g1:G (o+1)= .int .i64 t.b1
 g2:G (o+2)=t.c1.val
 g3:G (o+3)= .int .i64 t.b2
 g4:G (o+4)=t.c2.val
 g5:G (o+5)=t.own.val
 g6:G (o+6)= .int .i64 t.made
theorem G7.cells{w:World}{b ty N:Nat}{G:Nat->Value}{o:Nat}{t:Ac}(hr:w.rowIs b ty N G)(h:G7 G o t)(ho:o+7<=N):F6 w b o t:=
 ⟨(hr.cell (by omega)).trans (congrArg some h.g0),(hr.cell (by omega)).trans (congrArg some h.g1),(hr.cell (by omega)).trans (congrArg some h.g2),(hr.cell (by omega)).trans (congrArg some h.g3),(hr.cell (by omega)).trans (congrArg some h.g4),(hr.cell (by omega)).trans (congrArg some h.g5),(hr.cell (by omega)).trans (congrArg some h.g6)⟩
theorem Tryz.info68:(prog.info? 68).map (fun i=>(i.zero,i.size,i.bytes))=some (some (.agg #[.int .i64 0,.int .i64 0,.slice none 0 0,.int .i64 0,.slice none 0 0,.slice none 0 0,.int .i64 0]),7,104):=by kernel_rfl
theorem Tryz.info9:(prog.info? 9).map (fun i=>(i.zero,i.size,i.bytes))=some (some (.string ⟨#[]⟩),1,16):=by kernel_rfl
def As.row(w:World)(c:As):Prop:=∃b,c.a=some ⟨b,0,none⟩/\w.rowIs b 9 c.n (fun i=> .string (c.f i))
theorem Ah.setAt{W:World}{P t i:Nat}{cs:Array Value}(h:Ah W P (.cells cs t))(v:Value):Ah (W.setCell ⟨P,i,none⟩ v) P (.cells (cs.setIfInBounds i v) t):=by
 unfold Ah at *;simp[World.setCell,Array.getElem?_modify,h]
theorem Ah.warm{W:World}{P t:Nat}{cs:Array Value}(h:Ah W P (.cells cs t))(i:Nat):W.frozen? ⟨P,i,none⟩=false:=by
 unfold Ah at h;simp[World.frozen?,h]
theorem Ah.other{W:World}{P Q i:Nat}{o:Obj}(h:Ah W P o)(hne:Q≠P)(v:Value):Ah (W.setCell ⟨Q,i,none⟩ v) P o:=by
 unfold Ah at *;simp[World.setCell,Array.getElem?_modify,h,hne]
theorem Ah.all10{W:World}{P t:Nat}{z0 z1 z2 z3 z4 z5 z6 z7 z8 z9:Value}(h:Ah W P (.cells #[z0,z1,z2,z3,z4,z5,z6,z7,z8,z9] t))(x0 x1 x2 x3 x4 x5 x6 x7 x8 x9:Value):
 Ah ((((((((((W.setCell ⟨P,0,none⟩ x0).setCell ⟨P,1,none⟩ x1).setCell ⟨P,2,none⟩ x2).setCell ⟨P,3,none⟩ x3).setCell ⟨P,4,none⟩ x4).setCell ⟨P,5,none⟩ x5).setCell ⟨P,6,none⟩ x6).setCell ⟨P,7,none⟩ x7).setCell ⟨P,8,none⟩ x8).setCell ⟨P,9,none⟩ x9) P (.cells #[x0,x1,x2,x3,x4,x5,x6,x7,x8,x9] t):=by
 have h0:Ah _ P (.cells #[x0,z1,z2,z3,z4,z5,z6,z7,z8,z9] t):=h.setAt (i:=0) x0;have h1:Ah _ P (.cells #[x0,x1,z2,z3,z4,z5,z6,z7,z8,z9] t):=h0.setAt (i:=1) x1;have h2:Ah _ P (.cells #[x0,x1,x2,z3,z4,z5,z6,z7,z8,z9] t):=h1.setAt (i:=2) x2;have h3:Ah _ P (.cells #[x0,x1,x2,x3,z4,z5,z6,z7,z8,z9] t):=h2.setAt (i:=3) x3;have h4:Ah _ P (.cells #[x0,x1,x2,x3,x4,z5,z6,z7,z8,z9] t):=h3.setAt (i:=4) x4;have h5:Ah _ P (.cells #[x0,x1,x2,x3,x4,x5,z6,z7,z8,z9] t):=h4.setAt (i:=5) x5;have h6:Ah _ P (.cells #[x0,x1,x2,x3,x4,x5,x6,z7,z8,z9] t):=h5.setAt (i:=6) x6;have h7:Ah _ P (.cells #[x0,x1,x2,x3,x4,x5,x6,x7,z8,z9] t):=h6.setAt (i:=7) x7;have h8:Ah _ P (.cells #[x0,x1,x2,x3,x4,x5,x6,x7,x8,z9] t):=h7.setAt (i:=8) x8;exact h8.setAt (i:=9) x9

def As.same(c d:As):Prop:=d.n=c.n/\d.f=c.f
def Ab.same(t u:Ab):Prop:=u.id=t.id/\u.kind=t.kind/\u.up=t.up/\u.b1=t.b1/\t.c1.same u.c1/\u.data=t.data/\t.items.same u.items/\t.own.same u.own/\u.b2=t.b2/\t.c2.same u.c2
def Ab.row(w:World)(t:Ab):Prop:=t.c1.row w/\t.items.row w/\t.own.row w/\t.c2.row w
theorem As.row.below{w w':World}{c:As}(h:c.row w)(hb:Below w w w'):c.row w':=by
 obtain⟨b,e,hr⟩:=h;exact⟨b,e,Lj hr hb⟩
theorem Ab.row.below{w w':World}{t:Ab}(h:t.row w)(hb:Below w w w'):t.row w':=⟨Av.row.below h.1 hb,As.row.below h.2.1 hb,AI.row.below h.2.2.1 hb,Av.row.below h.2.2.2 hb⟩
theorem Ab.row.put{w:World}{t:Ab}{P ty N:Nat}{G:Nat->Value}(h:t.row w)(hP:w.rowIs P ty N G)(h1:ty≠118)(h2:ty≠2)(h3:ty≠9)(i:Nat)(v:Value):t.row (w.setCell ⟨P,i,none⟩ v):=by
 obtain⟨⟨b1,e1,r1⟩,⟨b2,e2,r2⟩,⟨b3,e3,r3⟩,⟨b4,e4,r4⟩⟩:=h;exact⟨⟨b1,e1,r1.setOther (Fi r1 hP h1.symm) v⟩,⟨b2,e2,r2.setOther (Fi r2 hP h3.symm) v⟩,⟨b3,e3,r3.setOther (Fi r3 hP h2.symm) v⟩,⟨b4,e4,r4.setOther (Fi r4 hP h1.symm) v⟩⟩
structure aE(G:Nat->Value)(o:Nat)(u:Ab):Prop where
 g0:G (o)= .int .i64 u.id
 g1:G (o+1)= .int .i64 u.kind
 g2:G (o+2)= .int .i64 u.up
 g3:G (o+3)= .int .i64 u.b1
 g4:G (o+4)=u.c1.val
 g5:G (o+5)= .string u.data
 g6:G (o+6)=u.items.val
 g7:G (o+7)=u.own.val
 g8:G (o+8)= .int .i64 u.b2
 g9:G (o+9)=u.c2.val
theorem Tryz.info40:(prog.info? 40).map (fun i=>(i.zero,i.size,i.bytes))=some (some (.agg #[.int .i64 0,.int .i64 0,.int .i64 0,.int .i64 0,.slice none 0 0,.string ⟨#[]⟩,.slice none 0 0,.slice none 0 0,.int .i64 0,.slice none 0 0]),10,152):=by kernel_rfl
def GO(w:World)(a:Option Addr)(n:Nat)(T:Nat->Ac):Prop:=∃b G,a=some ⟨b,0,none⟩/\w.rowIs b 68 (n*7) G/\∀j,j<n->G7 G (j*7) (T j)/\(T j).row w
def GX(w:World)(a:Option Addr)(n:Nat)(T:Nat->Ab):Prop:=∃b G,a=some ⟨b,0,none⟩/\w.rowIs b 40 (n*10) G/\∀j,j<n->aE G (j*10) (T j)/\(T j).row w
theorem GO.below{w w':World}{a:Option Addr}{n:Nat}{T:Nat->Ac}(h:GO w a n T)(hb:Below w w w'):GO w' a n T:=by
 obtain⟨b,G,e,hr,hj⟩:=h;exact⟨b,G,e,Lj hr hb,fun j h=>⟨(hj j h).1,Ac.row.below (hj j h).2 hb⟩⟩
theorem GX.below{w w':World}{a:Option Addr}{n:Nat}{T:Nat->Ab}(h:GX w a n T)(hb:Below w w w'):GX w' a n T:=by
 obtain⟨b,G,e,hr,hj⟩:=h;exact⟨b,G,e,Lj hr hb,fun j h=>⟨(hj j h).1,Ab.row.below (hj j h).2 hb⟩⟩
theorem GO.put{w:World}{a:Option Addr}{n:Nat}{T:Nat->Ac}{P ty N:Nat}{G:Nat->Value}(h:GO w a n T)(hP:w.rowIs P ty N G)(h1:ty≠118)(h2:ty≠2)(h4:ty≠68)(i:Nat)(v:Value):GO (w.setCell ⟨P,i,none⟩ v) a n T:=by
 obtain⟨b,G',e,hr,hj⟩:=h;exact⟨b,G',e,hr.setOther (Fi hr hP h4.symm) v,fun j h=>⟨(hj j h).1,Ac.row.put (hj j h).2 hP h1 h2 i v⟩⟩
theorem GX.put{w:World}{a:Option Addr}{n:Nat}{T:Nat->Ab}{P ty N:Nat}{G:Nat->Value}(h:GX w a n T)(hP:w.rowIs P ty N G)(h1:ty≠118)(h2:ty≠2)(h3:ty≠9)(h4:ty≠40)(i:Nat)(v:Value):GX (w.setCell ⟨P,i,none⟩ v) a n T:=by
 obtain⟨b,G',e,hr,hj⟩:=h;exact⟨b,G',e,hr.setOther (Fi hr hP h4.symm) v,fun j h=>⟨(hj j h).1,Ab.row.put (hj j h).2 hP h1 h2 h3 i v⟩⟩
theorem Ah.row{W:World}{P t:Nat}{cs:Array Value}(h:Ah W P (.cells cs t)):W.rowIs P t cs.size (fun i=>cs[i]?.getD undef):=⟨cs,h,rfl,fun i hi=>by simp[hi]⟩
def Aq.same(k l:Aq):Prop:=l.tn=k.tn/\(∀j,j<k.tn->(k.T j).same (l.T j))/\l.on=k.on/\(∀j,j<k.on->(k.O j).same (l.O j))
def Aq.row(w:World)(k:Aq):Prop:=GO w k.ta k.tn k.T/\GX w k.oa k.on k.O
theorem Gy{ids ids':Nat->Int}{n:Nat}(h:∀i,i<n->ids' i=ids i)(x:Int):Bg ids' n x=Bg ids n x:=by
 apply Option.ext;intro j;unfold Bg;rw[List.find?_range_eq_some,List.find?_range_eq_some];constructor
 ·rintro⟨h1,h2,h3⟩;have hj:=List.mem_range.1 h2;rw[h j hj]at h1;exact⟨h1,h2,fun i hi=>by have:=h3 i hi;rw[h i (by omega)]at this;exact this⟩
 ·rintro⟨h1,h2,h3⟩;have hj:=List.mem_range.1 h2;rw[<-h j hj]at h1;exact⟨h1,h2,fun i hi=>by have:=h3 i hi;rw[<-h i (by omega)]at this;exact this⟩
theorem VI{ids ids' ups ups':Nat->Int}{n:Nat}(h:∀i,i<n->ids' i=ids i)(hu:∀i,i<n->ups' i=ups i){i:Nat}(hi:i<n):IM ids' ups' n i=IM ids ups n i:=by
 unfold IM;rw[hu i hi,Gy h]
theorem Sg{ids ids' ups ups':Nat->Int}{n:Nat}(h:∀i,i<n->ids' i=ids i)(hu:∀i,i<n->ups' i=ups i)(m:Nat){i:Nat}(hi:i<n):Bi ids' ups' n m i=Bi ids ups n m i:=by
 induction m generalizing i with
 |zero=>rfl
 |succ m ih=>
  simp only[Bi];rw[VI h hu hi];cases e:IM ids ups n i with
  |none=>rfl
  |some j=>exact ih (MQ e)
theorem G8{n:Nat}{p q:Nat->Bool}(h:∀i,i<n->p i=q i):(List.range n).all p=(List.range n).all q:=by
 rw[Bool.eq_iff_iff];constructor
 ·intro e;exact DK fun i hi=>by rw[<-h i hi];exact Eo e i hi
 ·intro e;exact DK fun i hi=>by rw[h i hi];exact Eo e i hi
theorem Qh{ids ids' ups ups':Nat->Int}{n:Nat}(h:∀i,i<n->ids' i=ids i)(hu:∀i,i<n->ups' i=ups i):Ek ids' ups' n=Ek ids ups n:=by
 unfold Ek;refine G8 fun i hi=>?_;congr 1;funext m;rw[Sg h hu m hi]
theorem Sz{t u:Ac}(h:t.same u):Cn u=Cn t:=by
 obtain⟨h1,h2,⟨a1,a2,a3⟩,h3,⟨b1,b2,b3⟩,⟨c1,c2⟩,h4⟩:=h;simp only[Cn,h1,h2,h3,h4,a1,a2,a3,b1,b2,b3,c1,c2]
theorem Tj{t u:Ab}(h:t.same u):BZ u=BZ t:=by
 obtain⟨h1,h2,h3,h4,⟨a1,a2,a3⟩,h5,⟨d1,d2⟩,⟨c1,c2⟩,h6,⟨b1,b2,b3⟩⟩:=h;simp only[BZ,Gm,h2,h4,h5,h6,a1,a2,a3,b1,b2,b3,c1,c2,d1,d2]
theorem Tu{f g f' g':Nat->Int}{n:Nat}(hf:∀i,i<n->f' i=f i)(hg:∀i,i<n->g' i=g i)(x:Int):look f' g' n x=look f g n x:=by
 induction n with
 |zero=>rfl
 |succ n ih=>
  rw[look,look,hf n (by omega),hg n (by omega),ih (fun i hi=>hf i (by omega)) (fun i hi=>hg i (by omega))]
theorem Cc{k l:Aq}(h:k.same l):AZ l=AZ k:=by
 obtain⟨h1,h2,h3,h4⟩:=h;have i1:∀i,i<k.on->(l.O i).id=(k.O i).id:=fun i hi=>(h4 i hi).1;have u1:∀i,i<k.on->(l.O i).up=(k.O i).up:=fun i hi=>(h4 i hi).2.2.1;have k1:∀i,i<k.on->(l.O i).kind=(k.O i).kind:=fun i hi=>(h4 i hi).2.1;have t1:∀i,i<k.tn->(l.T i).id=(k.T i).id:=fun i hi=>(h2 i hi).1;have m1:∀i,i<k.tn->(l.T i).made=(k.T i).made:=fun i hi=>(h2 i hi).2.2.2.2.2.2;by_cases h0:1<=k.on
 ·have e1:Bo l.tn l.T=Bo k.tn k.T:=by
   unfold Bo;rw[h1];congr 1;refine G8 fun i hi=>?_;unfold Dq;rw[Sz (h2 i hi),t1 i hi];by_cases e:i=0
   ·subst e;rfl
   ·rw[t1 (i-1) (by omega)]
  have e2:BU l.on l.O=BU k.on k.O:=by
   unfold BU Fo;rw[h3,i1 0 h0,u1 0 h0,k1 0 h0];congr 2;refine G8 fun i hi=>?_;unfold Fe;rw[Tj (h4 i hi),i1 0 h0,i1 i hi];by_cases e:i=0
   ·subst e;rfl
   ·rw[i1 (i-1) (by omega)]
  have e3:FX l.tn l.T l.on l.O=FX k.tn k.T k.on k.O:=by
   unfold FX;rw[h3];refine G8 fun i hi=>?_;unfold Ex madeOf;rw[i1 (i+1) (by omega),h1,Tu t1 m1]
  have e4:Hf l.on l.O=Hf k.on k.O:=by
   unfold Hf;rw[h3];refine G8 fun i hi=>?_;unfold Ev;rw[u1 (i+1) (by omega),Gy i1];split
   ·rename_i u hu;rw[k1 u (AE hu).1]
   ·rfl
  unfold AZ;rw[e1,e2,e3,e4,h3,Qh i1 u1]
 ·rw[Hi (k:=k) (by omega),Hi (k:=l) (by rw[h3];omega)]
inductive Sv(n:Nat) (O:Nat->Ab):Int->Prop
 |root:Sv n O (O 0).id
 |up {i:Nat} (h0:0<i) (hi:i<n) (h:Sv n O (O i).up):Sv n O (O i).id
structure SQ(k:Aq):Prop where
 thr:Bo k.tn k.T=true
 lo:1<=k.on
 root:Fo (k.O 0)=true
 obj:∀i,i<k.on->BZ (k.O i)=true
 rise:Db (fun i=>(k.O i).id) k.on
 num:∀i,0<i->i<k.on->Ex k.tn k.T (k.O i).id=true
 box:∀i,0<i->i<k.on->∃p,p<k.on/\(k.O p).id=(k.O i).up/\(k.O p).kind=3
 reach:∀i,i<k.on->Sv k.on k.O (k.O i).id
theorem JH{ids:Nat->Int}{n:Nat}(h:∀i,0<i->i<n->ids (i-1)<ids i):Db ids n:=by
 intro i j hij hj;induction j with
 |zero=>omega
 |succ j ih=>
  have h1:=h (j+1) (by omega) hj;have e:j+1-1=j:=by omega
  rw[e]at h1;by_cases e1:i=j
  ·subst e1;exact h1
  ·have:=ih (by omega) (by omega);omega
theorem Pe{n:Nat}{O:Nat->Ab}(h:Db (fun i=>(O i).id) n){x:Int}:Ev n O x=true↔∃p,p<n/\(O p).id=x/\(O p).kind=3:=by
 unfold Ev;constructor
 ·intro hh;cases e:Bg (fun i=>(O i).id) n x with
  |none=>rw[e]at hh;cases hh
  |some u=>
   rw[e]at hh;obtain⟨h1,h2⟩:=AE e;exact⟨u,h1,h2,by simpa using hh⟩
 ·rintro⟨p,h1,h2,h3⟩;have e:=Dj h h1;rw[h2]at e;rw[e];simpa using h3
theorem W6{n:Nat}{O:Nat->Ab}:∀{m i:Nat},i<n->Bi (fun i=>(O i).id) (fun i=>(O i).up) n m i=some 0->Sv n O (O i).id
 |0,i,_,h=>by
  simp only[Bi,Option.some.injEq]at h;subst h;exact .root
 |m+1,i,hi,h=>by
  simp only[Bi]at h;cases e:IM (fun i=>(O i).id) (fun i=>(O i).up) n i with
  |none=>rw[e]at h;cases h
  |some j=>
   rw[e]at h;have hj:=MQ e;have r:=W6 hj h;unfold IM at e;split at e
   ·cases e
   ·rename_i h0;have:=(AE e).2;simp only at this;rw[this]at r;exact .up (by omega) hi r
theorem Yb{n:Nat}{O:Nat->Ab}(h0:0<n){x:Int}(hx:Sv n O x):∃p,p<n/\(O p).id=x:=by
 induction hx with
 |root=>exact⟨0,h0,rfl⟩
 |@up q _ hq _ _=>exact⟨q,hq,rfl⟩
theorem Yy{n:Nat}{O:Nat->Ab}(h:Db (fun i=>(O i).id) n)(h0:0<n){x:Int}(hx:Sv n O x):∀i,i<n->(O i).id=x->∃m,Bi (fun i=>(O i).id) (fun i=>(O i).up) n m i=some 0:=by
 induction hx with
 |root=>
  intro i hi e;have:i=0:=h.inj hi h0 e;subst this;exact⟨0,rfl⟩
 |@up j hj0 hj hu ih=>
  intro i hi e;have:i=j:=h.inj hi hj e;subst this;have hp:∃p,p<n/\(O p).id=(O i).up:=Yb h0 hu;obtain⟨p,hp1,hp2⟩:=hp;obtain⟨m,hm⟩:=ih p hp1 hp2;refine⟨m+1,?_⟩;have e1:IM (fun i=>(O i).id) (fun i=>(O i).up) n i=some p:=by
   unfold IM;rw[if_neg (by omega)];have:=Dj h hp1;rw[hp2]at this;exact this
  simp only[Bi,e1,Option.bind_some];exact hm
theorem FQ{n:Nat}{T:Nat->Ac}(h:Bo n T=true){id:Int}(hn:Ex n T id=true):∃t,t<n/\(T t).id=id/1000/\1<=id%1000/\id%1000<=(T t).made:=by
 cases e:Bg (fun i=>(T i).id) n (id/1000)with
 |none=>rw[Jk h e]at hn;cases hn
 |some t=>
  obtain⟨h1,h2⟩:=AE e;rw[Hr h e]at hn;have:=Cl.1 hn;exact⟨t,h1,h2,this.1,this.2⟩
theorem Ri{n:Nat}{T:Nat->Ac}(h:Bo n T=true){id:Int}{t:Nat}(h1:t<n)(h2:(T t).id=id/1000)(h3:1<=id%1000)(h4:id%1000<=(T t).made):Ex n T id=true:=by
 have e:=Dj (IU h) h1;rw[h2]at e;rw[Hr h e];exact Cl.2 ⟨h3,h4⟩
theorem SQ.few{k:Aq}(h:SQ k):k.on<=271:=by
 have lo:=h.lo;let g:Nat->Nat:=fun i=>(((k.O (i+1)).id/1000-1)*30+((k.O (i+1)).id%1000-1)).toNat;have hg:∀i,i<k.on-1->1<=(k.O (i+1)).id/1000/\(k.O (i+1)).id/1000<=9/\1<=(k.O (i+1)).id%1000/\(k.O (i+1)).id%1000<=30:=fun i hi=>by
  obtain⟨t,t1,t2,t3,t4⟩:=FQ h.thr (h.num (i+1) (by omega) (by omega));obtain⟨_,_,hT⟩:=Cp h.thr;have hk:=MJ (hT t t1);have h1:=JB hk;have h2:=Jo hk;omega
 have hl:((List.range (k.on-1)).map g).Nodup:=by
  rw[List.Nodup,List.pairwise_map];refine List.Pairwise.imp_of_mem ?_ (List.pairwise_lt_range (n:=k.on-1));intro a b ha hb hab e;have ha':=List.mem_range.1 ha;have hb':=List.mem_range.1 hb;have ga:=hg a ha';have gb:=hg b hb';have hr:=h.rise (a+1) (b+1) (by omega) (by omega);simp only at hr;have e':g a=g b:=e;simp only[g]at e';omega
 have:=Gc (n:=270) hl (fun x hx=>by
  obtain⟨i,hi,rfl⟩:=List.mem_map.1 hx;have gi:=hg i (List.mem_range.1 hi);show g i<270;simp only[g];omega)
 simp at this;omega
theorem BN{k:Aq}:AZ k=true↔SQ k:=by
 constructor
 ·intro h;have h1:Bo k.tn k.T=true:=by
   cases e:Bo k.tn k.T with
   |true=>rfl
   |false=>rw[Gg e]at h;cases h
  have h2:1<=k.on/\k.on<=271:=by
   by_cases e:1<=k.on/\k.on<=271
   ·exact e
   ·rw[Hi e]at h;cases h
  rw[Ig h1 h2.1 h2.2,Bool.and_eq_true]at h;have hs:=Eo h.1;have hat:∀i,i<k.on->BZ (k.O i)=true/\(if i=0 then Fo (k.O 0)else decide ((k.O (i-1)).id<(k.O i).id)&&Ex k.tn k.T (k.O i).id&&Ev k.on k.O (k.O i).up)=true:=fun i hi=>by
   have:=hs i hi;unfold Gw at this;exact Bool.and_eq_true_iff.1 this
  have hrest:∀i,0<i->i<k.on->(k.O (i-1)).id<(k.O i).id/\Ex k.tn k.T (k.O i).id=true/\Ev k.on k.O (k.O i).up=true:=fun i h0 hi=>by
   have:=(hat i hi).2;rw[if_neg (by omega)]at this;simp only[Bool.and_eq_true,decide_eq_true_eq]at this;exact⟨this.1.1,this.1.2,this.2⟩
  have hr:Db (fun i=>(k.O i).id) k.on:=JH fun i h0 hi=>(hrest i h0 hi).1;refine⟨h1,h2.1,?_,fun i hi=>(hat i hi).1,hr,fun i h0 hi=>(hrest i h0 hi).2.1,fun i h0 hi=>(Pe hr).1 (hrest i h0 hi).2.2,fun i hi=>?_⟩
  ·have:=(hat 0 (by omega)).2;rw[if_pos rfl]at this;exact this
  ·obtain⟨m,_,hm⟩:=Fx.1 h.2 i hi;exact W6 hi hm
 ·intro h;have h2:=h.few;rw[Ig h.thr h.lo h2,Bool.and_eq_true];refine⟨DK fun i hi=>?_,Fx.2 fun i hi=>?_⟩
  ·unfold Gw;rw[h.obj i hi,Bool.true_and];by_cases e:i=0
   ·rw[if_pos e];exact h.root
   ·rw[if_neg e];have hr:=h.rise (i-1) i (by omega) hi;simp only at hr;rw[h.num i (by omega) hi,(Pe h.rise).2 (h.box i (by omega) hi),decide_eq_true hr];rfl
  ·obtain⟨m,hm⟩:=Yy h.rise (by have:=h.lo;omega) (h.reach i hi) i hi rfl;exact⟨m,Mi FF hi hm,hm⟩
end Go.Proofs.YtphddbnadcjhgaaGreatDoor
