import Derived.Deep.AppendLies
import Derived.Laws.OwnMore
import Derived.WideShapes
import Derived.Test.YteoihknaljgocaaGreatDoorZ1m
set_option maxRecDepth 100000
set_option maxHeartbeats 2000000
namespace Go.Proofs.YteoihknaljgocaaGreatDoor
open Go Go.RowKit Go.Deep Go.Proofs.Tryz
variable {ids:Nat->Int}{n:Nat}{x:Int}
def Gf:Option Nat->Int
 |none=> -1
 |some j=>j
theorem Hj{k:Nat}(hk:k<n)(he:ids k=x)(h:∀j,j<k->ids j≠x):Bg ids n x=some k:=by
 unfold Bg;rw[List.find?_range_eq_some];exact⟨by simpa using he,List.mem_range.2 hk,fun j hj=>by simpa using h j hj⟩
theorem Jf(h:∀j,j<n->ids j≠x):Bg ids n x=none:=by
 unfold Bg;rw[List.find?_eq_none];intro j hj;simpa using h j (List.mem_range.1 hj)
theorem J0(k:Aw)(x:Int)(w:World)(hk:k.at w):
 Calls prog 55 #[k.val,.int .i64 x] w fun e w'=>e= .returned (.int .i64 (Gf (Bg (fun i=>(k.O i).id) k.on x)))/\Below w w w':=by
 have n1:No (.cells #[.slice k.ta k.tn k.tk,.slice k.oa k.on k.ok] 27):=⟨⟩;have hb0:=(Below.refl _ w).alloc nr n1;have A0:=Ag.new w n1;have HT:=hid (hk.below hb0);have hn:=hk.2.1;unfold maxLen at hn;unfold Aw.val;obtain⟨x0,x1⟩:=A0.two;clear hk A0;go_enter func55,ntmps55
 go_wp2;generalize w.alloc n1=W at *;go_loop [5] (fun i=>∃q:Nat,q<=k.on/\i= .int .i64 q/\Hid (∀j,j<q->(k.O j).id≠x)) (fun i=>k.on-(intOf i).toNat)
 case atStart=>exact⟨0,Nat.zero_le _,rfl,hid (fun j hj=>by omega)⟩
 case round=>
  obtain⟨q,hq,rfl,HA⟩:=hrel;by_cases hlt:q<k.on
  ·obtain⟨b,off,ea,_,hcc⟩:=HT.out.2.2.2 (by omega);have q0:=(hcc q hlt).1.c0;have i1:(q:Int)<(k.on:Int):=(by omega);rw[ea]at x1;clear hcc ea;by_cases e:(k.O q).id=x
   ·have HF:=hid (Hj (ids:=fun i=>(k.O i).id) hlt e HA);have e':((k.O q).id==x)=true:=(by simpa using e);clear e HA;go_wp2;go_ret;exact⟨Ff (by rw[HF.out];rfl),hb0⟩
   ·have e':((k.O q).id==x)=false:=(by simpa using e);have HA2:Hid (∀j,j<q+1->(k.O j).id≠x):=hid (fun j hj=>by
     by_cases ej:j=q
     ·subst ej;exact e
     ·exact HA.out j (by omega))
    clear e HA;go_wp2;exact⟨⟨q+1,by omega,by go_num,HA2⟩,by simp[intOf];omega⟩
  ·have i1:¬(q:Int)<(k.on:Int):=(by omega);have HF:=hid (Jf (ids:=fun i=>(k.O i).id) (n:=k.on) (x:=x) (fun j hj=>HA j (by omega)));clear HA;go_wp2;go_ret;exact⟨Ff (by rw[HF.out];rfl),hb0⟩
theorem IF(k:Aw)(x:Int)(w:World)(hk:k.at w):
 Calls prog 41 #[k.val,.int .i64 x] w fun e w'=>e= .returned (.int .i64 (Gf (Bg (fun i=>(k.T i).id) k.tn x)))/\Below w w w':=by
 have n1:No (.cells #[.slice k.ta k.tn k.tk,.slice k.oa k.on k.ok] 27):=⟨⟩;have hb0:=(Below.refl _ w).alloc nr n1;have A0:=Ag.new w n1;have HT:=hid (hk.below hb0);have hn:=hk.1;unfold maxLen at hn;unfold Aw.val;obtain⟨x0,x1⟩:=A0.two;clear hk A0;go_enter func41,ntmps41
 go_wp2;generalize w.alloc n1=W at *;go_loop [5] (fun i=>∃q:Nat,q<=k.tn/\i= .int .i64 q/\Hid (∀j,j<q->(k.T j).id≠x)) (fun i=>k.tn-(intOf i).toNat)
 case atStart=>exact⟨0,Nat.zero_le _,rfl,hid (fun j hj=>by omega)⟩
 case round=>
  obtain⟨q,hq,rfl,HA⟩:=hrel;by_cases hlt:q<k.tn
  ·obtain⟨b,off,ea,_,hcc⟩:=HT.out.2.2.1 (by omega);have q0:=(hcc q hlt).1.c0;have i1:(q:Int)<(k.tn:Int):=(by omega);rw[ea]at x0;clear hcc ea;by_cases e:(k.T q).id=x
   ·have HF:=hid (Hj (ids:=fun i=>(k.T i).id) hlt e HA);have e':((k.T q).id==x)=true:=(by simpa using e);clear e HA;go_wp2;go_ret;exact⟨Ff (by rw[HF.out];rfl),hb0⟩
   ·have e':((k.T q).id==x)=false:=(by simpa using e);have HA2:Hid (∀j,j<q+1->(k.T j).id≠x):=hid (fun j hj=>by
     by_cases ej:j=q
     ·subst ej;exact e
     ·exact HA.out j (by omega))
    clear e HA;go_wp2;exact⟨⟨q+1,by omega,by go_num,HA2⟩,by simp[intOf];omega⟩
  ·have i1:¬(q:Int)<(k.tn:Int):=(by omega);have HF:=hid (Jf (ids:=fun i=>(k.T i).id) (n:=k.tn) (x:=x) (fun j hj=>HA j (by omega)));clear HA;go_wp2;go_ret;exact⟨Ff (by rw[HF.out];rfl),hb0⟩
variable {k:Aw}{n:Nat}{id:Int}
def Fz(n:Nat)(O:Nat->Ab)(x:Int):Bool:=match Bg (fun i=>(O i).id) n x with
 |some u=>(O u).kind==3
 |none=>false
def IP(n:Nat)(O:Nat->Ab):Bool:=(List.range (n-1)).all (fun i=>Fz n O (O (i+1)).up)
def Bj(k:Aw):Bool:=By k.tn k.T&&Cn k.on k.O&&Gx k.tn k.T k.on k.O&&IP k.on k.O&&Fh (fun i=>(k.O i).id) (fun i=>(k.O i).up) k.on
def GU(k:Aw)(i:Nat):Bool:=CS (k.O i)&&(if i=0 then FJ (k.O 0)else decide ((k.O (i-1)).id<(k.O i).id)&&Fw k.tn k.T (k.O i).id&&Fz k.on k.O (k.O i).up)
theorem RJ(h1:1<=k.on)(h2:k.on<=271):(Cn k.on k.O&&Gx k.tn k.T k.on k.O&&IP k.on k.O)=(List.range k.on).all (GU k):=by
 rw[Bool.eq_iff_iff];simp only[Bool.and_eq_true];constructor
 ·rintro⟨⟨ho,hn⟩,hu⟩;obtain⟨_,_,ha,hr⟩:=BZ ho;refine Er fun i hi=>?_;have hai:=ha i hi;simp only[FY,Bool.and_eq_true]at hai;simp only[GU,hai.1,Bool.true_and];by_cases e:i=0
  ·rw[if_pos e];exact hr
  ·rw[if_neg e]at hai ⊢;have e1:i-1+1=i:=(by omega);have h3:=Gm hn (i-1) (by omega);have h4:=Gm hu (i-1) (by omega);simp only[e1]at h3 h4;simp only[hai.2,h3,h4,Bool.and_true]
 ·intro h;have ha:=Gm h;have h0:=ha 0 (by omega);simp only[GU,if_true,Bool.and_eq_true]at h0;refine⟨⟨?_,?_⟩,?_⟩
  ·have:(List.range k.on).all (FY k.O)=true:=Er fun i hi=>by
    have hi':=ha i hi;simp only[GU,Bool.and_eq_true]at hi';simp only[FY,hi'.1,Bool.true_and];by_cases e:i=0
    ·rw[if_pos e];have:=h0.2;simp only[FJ,Bool.and_eq_true,beq_iff_eq]at this;simp[this.1.1]
    ·rw[if_neg e]at hi' ⊢;simp only[Bool.and_eq_true]at hi';exact hi'.2.1.1
   simp only[Cn,this,h0.2,Bool.and_true,Bool.and_eq_true,decide_eq_true_eq];exact⟨h1,h2⟩
  ·refine Er fun i hi=>?_;have hi':=ha (i+1) (by omega);simp only[GU,Bool.and_eq_true]at hi';rw[if_neg (by omega)]at hi';simp only[Bool.and_eq_true]at hi';exact hi'.2.1.2
  ·refine Er fun i hi=>?_;have hi':=ha (i+1) (by omega);simp only[GU,Bool.and_eq_true]at hi';rw[if_neg (by omega)]at hi';simp only[Bool.and_eq_true]at hi';exact hi'.2.2
theorem IZ(ht:By k.tn k.T=true)(h1:1<=k.on)(h2:k.on<=271):Bj k=((List.range k.on).all (GU k)&&Fh (fun i=>(k.O i).id) (fun i=>(k.O i).up) k.on):=by
 rw[Bj,ht,<-RJ h1 h2];simp[Bool.and_assoc]
theorem GI(ht:By k.tn k.T=false):Bj k=false:=by simp[Bj,ht]
theorem Ii(h:¬(1<=k.on/\k.on<=271)):Bj k=false:=by
 have:Cn k.on k.O=false:=by
  cases e:Cn k.on k.O with
  |false=>rfl
  |true=>obtain⟨a,b,_⟩:=BZ e;exact absurd ⟨a,b⟩ h
 simp[Bj,this]
theorem Ij{T:Nat->Ae}(h:By n T=true):Du (fun i=>(T i).id) n:=by
 obtain⟨_,_,ha⟩:=Dn h;intro i j hij;induction j with
 |zero=>omega
 |succ j ih=>
  intro hj;have h1:=ha (j+1) hj;simp[Et]at h1;by_cases e:i=j
  ·subst e;exact h1.2
  ·have:=ih (by omega) (by omega);simp only at this ⊢;omega
theorem PQ{ids g:Nat->Int}(h:Du ids n)(x:Int):look ids g n x=(Bg ids n x).map g:=by
 induction n with
 |zero=>rfl
 |succ n ih=>
  have ih':=ih (fun i j hij hj=>h i j hij (by omega));rw[look];split
  ·rename_i e;rw[<-e,Dt h (Nat.lt_succ_self n)];rfl
  ·rename_i e;rw[ih'];congr 1;cases e1:Bg ids n x with
   |none=>
    symm;refine Jf fun j hj=>?_;by_cases ej:j=n
    ·subst ej;exact e
    ·exact GQ e1 j (by omega)
   |some j=>
    obtain⟨j1,j2⟩:=Av e1;symm;rw[<-j2];exact Dt h (by omega)
theorem JY{T:Nat->Ae}(h:By n T=true){t:Nat}(e:Bg (fun i=>(T i).id) n (id/1000)=some t):Fw n T id=Ei (id%1000) 1 (T t).made:=by
 have:madeOf n T (id/1000)=(T t).made:=by
  unfold madeOf;rw[PQ (Ij h),e];rfl
 simp[Fw,this,Ei]
theorem Ni{T:Nat->Ae}(h:By n T=true)(e:Bg (fun i=>(T i).id) n (id/1000)=none):Fw n T id=false:=by
 have:madeOf n T (id/1000)=0:=by
  unfold madeOf;rw[PQ (Ij h),e];rfl
 simp[Fw,this];intro _;omega
theorem ZJ{i:Nat}(h:∀j,j<i->GU k j=true)(h0:0<i)(hl:(k.O (i-1)).id<(k.O i).id):1<=(k.O i).id:=by
 have:∀j,j<i->1<=(k.O j).id:=by
  intro j;induction j with
  |zero=>
   intro hj;have:=h 0 hj;simp only[GU,if_true,Bool.and_eq_true,FJ,beq_iff_eq]at this;omega
  |succ j ih=>
   intro hj;have h1:=ih (by omega);have:=h (j+1) hj;simp only[GU,Bool.and_eq_true]at this;rw[if_neg (by omega)]at this;simp only[Bool.and_eq_true,decide_eq_true_eq,Nat.add_sub_cancel]at this;omega
 have:=this (i-1) (by omega);omega
variable {w w':World}{b ty N:Nat}{t:Ae}
def Ar.same(c d:Ar):Prop:=d.n=c.n/\d.f=c.f/\d.g=c.g
def AJ.same(c d:AJ):Prop:=d.n=c.n/\d.h=c.h
def Ae.same(t u:Ae):Prop:=u.id=t.id/\u.b1=t.b1/\t.c1.same u.c1/\u.b2=t.b2/\t.c2.same u.c2/\t.own.same u.own/\u.made=t.made
def Ar.row(w:World)(c:Ar):Prop:=∃b,c.a=some ⟨b,0,none⟩/\w.rowIs b 78 (c.n*2) (Dm c.f c.g)
def AJ.row(w:World)(c:AJ):Prop:=∃b,c.a=some ⟨b,0,none⟩/\w.rowIs b 2 c.n (fun i=> .int .i64 (c.h i))
def Ae.row(w:World)(t:Ae):Prop:=t.c1.row w/\t.c2.row w/\t.own.row w
theorem Mq{G:Nat->Value}(h:w.rowIs b ty N G)(hb:Below w w w'):w'.rowIs b ty N G:=h.of_block (hb.block b h.lt)
theorem Fj{b' t t' N':Nat}{G G':Nat->Value}(h:w.rowIs b t N G)(h':w.rowIs b' t' N' G')(ht:t≠t'):b≠b':=fun e=>by
 subst e;obtain⟨c,e1,_⟩:=h;obtain⟨c',e2,_⟩:=h';rw[e1]at e2;simp only[Option.some.injEq,Obj.cells.injEq]at e2;exact ht e2.2.1
theorem Ar.row.below{c:Ar}(h:c.row w)(hb:Below w w w'):c.row w':=by
 obtain⟨b,e,hr⟩:=h;exact⟨b,e,Mq hr hb⟩
theorem AJ.row.below{c:AJ}(h:c.row w)(hb:Below w w w'):c.row w':=by
 obtain⟨b,e,hr⟩:=h;exact⟨b,e,Mq hr hb⟩
theorem Ae.row.below(h:t.row w)(hb:Below w w w'):t.row w':=⟨Ar.row.below h.1 hb,Ar.row.below h.2.1 hb,AJ.row.below h.2.2 hb⟩
theorem Ae.row.put{P:Nat}{G:Nat->Value}(h:t.row w)(hP:w.rowIs P ty N G)(h1:ty≠78)(h2:ty≠2)(i:Nat)(v:Value):t.row (w.setCell ⟨P,i,none⟩ v):=by
 obtain⟨⟨b1,e1,r1⟩,⟨b2,e2,r2⟩,⟨b3,e3,r3⟩⟩:=h;exact⟨⟨b1,e1,r1.setOther (Fj r1 hP h1.symm) v⟩,⟨b2,e2,r2.setOther (Fj r2 hP h1.symm) v⟩,⟨b3,e3,r3.setOther (Fj r3 hP h2.symm) v⟩⟩
theorem Ae.row.at(h:t.row w)(hs:t.small):t.at w:=by
 obtain⟨⟨b1,e1,r1⟩,⟨b2,e2,r2⟩,⟨b3,e3,r3⟩⟩:=h;refine⟨⟨by unfold maxLen;have:=hs.1;omega,?_⟩,⟨by unfold maxLen;have:=hs.2.1;omega,?_⟩,⟨by unfold maxLen;have:=hs.2.2;omega,?_⟩⟩
 ·rw[e1];exact AX.row r1
 ·rw[e2];exact AX.row r2
 ·rw[e3];exact Be.row r3
structure G7(G:Nat->Value)(o:Nat)(t:Ae):Prop where
 g0:G o= .int .i64 t.id
 g1:G (o+1)= .int .i64 t.b1
 g2:G (o+2)=t.c1.val
 g3:G (o+3)= .int .i64 t.b2
 g4:G (o+4)=t.c2.val
 g5:G (o+5)=t.own.val
 g6:G (o+6)= .int .i64 t.made
theorem G7.cells{G:Nat->Value}{o:Nat}(hr:w.rowIs b ty N G)(h:G7 G o t)(ho:o+7<=N):Fi w b o t:=
 ⟨(hr.cell (by omega)).trans (congrArg some h.g0),(hr.cell (by omega)).trans (congrArg some h.g1),(hr.cell (by omega)).trans (congrArg some h.g2),(hr.cell (by omega)).trans (congrArg some h.g3),(hr.cell (by omega)).trans (congrArg some h.g4),(hr.cell (by omega)).trans (congrArg some h.g5),(hr.cell (by omega)).trans (congrArg some h.g6)⟩
theorem Tryz.info39:(prog.info? 39).map (fun i=>(i.zero,i.size,i.bytes))=some (some (.agg #[.int .i64 0,.int .i64 0,.slice none 0 0,.int .i64 0,.slice none 0 0,.slice none 0 0,.int .i64 0]),7,104):=by kernel_rfl
variable {W:World}{P t i:Nat}
theorem Tryz.info9:(prog.info? 9).map (fun i=>(i.zero,i.size,i.bytes))=some (some (.string ⟨#[]⟩),1,16):=by kernel_rfl
def AH.row(w:World)(c:AH):Prop:=∃b,c.a=some ⟨b,0,none⟩/\w.rowIs b 9 c.n (fun i=> .string (c.f i))
theorem Ag.jB{cs:Array Value}(h:Ag W P (.cells cs t))(v:Value):Ag (W.setCell ⟨P,i,none⟩ v) P (.cells (cs.setIfInBounds i v) t):=by
 unfold Ag at *;simp[World.setCell,Array.getElem?_modify,h]
theorem Ag.jC{cs:Array Value}(h:Ag W P (.cells cs t))(i:Nat):W.frozen? ⟨P,i,none⟩=false:=by
 unfold Ag at h;simp[World.frozen?,h]
theorem Ag.other{Q:Nat}{o:Obj}(h:Ag W P o)(hne:Q≠P)(v:Value):Ag (W.setCell ⟨Q,i,none⟩ v) P o:=by
 unfold Ag at *;simp[World.setCell,Array.getElem?_modify,h,hne]
theorem Ag.all10{z0 z1 z2 z3 z4 z5 z6 z7 z8 z9:Value}(h:Ag W P (.cells #[z0,z1,z2,z3,z4,z5,z6,z7,z8,z9] t))(x0 x1 x2 x3 x4 x5 x6 x7 x8 x9:Value):
 Ag ((((((((((W.setCell ⟨P,0,none⟩ x0).setCell ⟨P,1,none⟩ x1).setCell ⟨P,2,none⟩ x2).setCell ⟨P,3,none⟩ x3).setCell ⟨P,4,none⟩ x4).setCell ⟨P,5,none⟩ x5).setCell ⟨P,6,none⟩ x6).setCell ⟨P,7,none⟩ x7).setCell ⟨P,8,none⟩ x8).setCell ⟨P,9,none⟩ x9) P (.cells #[x0,x1,x2,x3,x4,x5,x6,x7,x8,x9] t):=by
 have h0:Ag _ P (.cells #[x0,z1,z2,z3,z4,z5,z6,z7,z8,z9] t):=h.jB (i:=0) x0;have h1:Ag _ P (.cells #[x0,x1,z2,z3,z4,z5,z6,z7,z8,z9] t):=h0.jB (i:=1) x1;have h2:Ag _ P (.cells #[x0,x1,x2,z3,z4,z5,z6,z7,z8,z9] t):=h1.jB (i:=2) x2;have h3:Ag _ P (.cells #[x0,x1,x2,x3,z4,z5,z6,z7,z8,z9] t):=h2.jB (i:=3) x3;have h4:Ag _ P (.cells #[x0,x1,x2,x3,x4,z5,z6,z7,z8,z9] t):=h3.jB (i:=4) x4;have h5:Ag _ P (.cells #[x0,x1,x2,x3,x4,x5,z6,z7,z8,z9] t):=h4.jB (i:=5) x5;have h6:Ag _ P (.cells #[x0,x1,x2,x3,x4,x5,x6,z7,z8,z9] t):=h5.jB (i:=6) x6;have h7:Ag _ P (.cells #[x0,x1,x2,x3,x4,x5,x6,x7,z8,z9] t):=h6.jB (i:=7) x7;have h8:Ag _ P (.cells #[x0,x1,x2,x3,x4,x5,x6,x7,x8,z9] t):=h7.jB (i:=8) x8;exact h8.jB (i:=9) x9

variable {w w':World}{t:Ab}
def AH.same(c d:AH):Prop:=d.n=c.n/\d.f=c.f
def Ab.same(t u:Ab):Prop:=u.id=t.id/\u.kind=t.kind/\u.up=t.up/\u.b1=t.b1/\t.c1.same u.c1/\u.data=t.data/\t.jA.same u.jA/\t.own.same u.own/\u.b2=t.b2/\t.c2.same u.c2
def Ab.row(w:World)(t:Ab):Prop:=t.c1.row w/\t.jA.row w/\t.own.row w/\t.c2.row w
theorem AH.row.below{c:AH}(h:c.row w)(hb:Below w w w'):c.row w':=by
 obtain⟨b,e,hr⟩:=h;exact⟨b,e,Mq hr hb⟩
theorem Ab.row.below(h:t.row w)(hb:Below w w w'):t.row w':=⟨Ar.row.below h.1 hb,AH.row.below h.2.1 hb,AJ.row.below h.2.2.1 hb,Ar.row.below h.2.2.2 hb⟩
theorem Ab.row.put{P ty N:Nat}{G:Nat->Value}(h:t.row w)(hP:w.rowIs P ty N G)(h1:ty≠78)(h2:ty≠2)(h3:ty≠9)(i:Nat)(v:Value):t.row (w.setCell ⟨P,i,none⟩ v):=by
 obtain⟨⟨b1,e1,r1⟩,⟨b2,e2,r2⟩,⟨b3,e3,r3⟩,⟨b4,e4,r4⟩⟩:=h;exact⟨⟨b1,e1,r1.setOther (Fj r1 hP h1.symm) v⟩,⟨b2,e2,r2.setOther (Fj r2 hP h3.symm) v⟩,⟨b3,e3,r3.setOther (Fj r3 hP h2.symm) v⟩,⟨b4,e4,r4.setOther (Fj r4 hP h1.symm) v⟩⟩
structure bM(G:Nat->Value)(o:Nat)(u:Ab):Prop where
 g0:G (o)= .int .i64 u.id
 g1:G (o+1)= .int .i64 u.kind
 g2:G (o+2)= .int .i64 u.up
 g3:G (o+3)= .int .i64 u.b1
 g4:G (o+4)=u.c1.val
 g5:G (o+5)= .string u.data
 g6:G (o+6)=u.jA.val
 g7:G (o+7)=u.own.val
 g8:G (o+8)= .int .i64 u.b2
 g9:G (o+9)=u.c2.val
theorem Tryz.info44:(prog.info? 44).map (fun i=>(i.zero,i.size,i.bytes))=some (some (.agg #[.int .i64 0,.int .i64 0,.int .i64 0,.int .i64 0,.slice none 0 0,.string ⟨#[]⟩,.slice none 0 0,.slice none 0 0,.int .i64 0,.slice none 0 0]),10,152):=by kernel_rfl
variable {w w':World}{a:Option Addr}{n P ty N:Nat}
def Hu(w:World)(a:Option Addr)(n:Nat)(T:Nat->Ae):Prop:=∃b G,a=some ⟨b,0,none⟩/\w.rowIs b 39 (n*7) G/\∀j,j<n->G7 G (j*7) (T j)/\(T j).row w
def Ia(w:World)(a:Option Addr)(n:Nat)(T:Nat->Ab):Prop:=∃b G,a=some ⟨b,0,none⟩/\w.rowIs b 44 (n*10) G/\∀j,j<n->bM G (j*10) (T j)/\(T j).row w
theorem Hu.below{T:Nat->Ae}(h:Hu w a n T)(hb:Below w w w'):Hu w' a n T:=by
 obtain⟨b,G,e,hr,hj⟩:=h;exact⟨b,G,e,Mq hr hb,fun j h=>⟨(hj j h).1,Ae.row.below (hj j h).2 hb⟩⟩
theorem Ia.below{T:Nat->Ab}(h:Ia w a n T)(hb:Below w w w'):Ia w' a n T:=by
 obtain⟨b,G,e,hr,hj⟩:=h;exact⟨b,G,e,Mq hr hb,fun j h=>⟨(hj j h).1,Ab.row.below (hj j h).2 hb⟩⟩
theorem Hu.put{T:Nat->Ae}{G:Nat->Value}(h:Hu w a n T)(hP:w.rowIs P ty N G)(h1:ty≠78)(h2:ty≠2)(h4:ty≠39)(i:Nat)(v:Value):Hu (w.setCell ⟨P,i,none⟩ v) a n T:=by
 obtain⟨b,G',e,hr,hj⟩:=h;exact⟨b,G',e,hr.setOther (Fj hr hP h4.symm) v,fun j h=>⟨(hj j h).1,Ae.row.put (hj j h).2 hP h1 h2 i v⟩⟩
theorem Ia.put{T:Nat->Ab}{G:Nat->Value}(h:Ia w a n T)(hP:w.rowIs P ty N G)(h1:ty≠78)(h2:ty≠2)(h3:ty≠9)(h4:ty≠44)(i:Nat)(v:Value):Ia (w.setCell ⟨P,i,none⟩ v) a n T:=by
 obtain⟨b,G',e,hr,hj⟩:=h;exact⟨b,G',e,hr.setOther (Fj hr hP h4.symm) v,fun j h=>⟨(hj j h).1,Ab.row.put (hj j h).2 hP h1 h2 h3 i v⟩⟩
theorem Ag.row{W:World}{t:Nat}{cs:Array Value}(h:Ag W P (.cells cs t)):W.rowIs P t cs.size (fun i=>cs[i]?.getD undef):=⟨cs,h,rfl,fun i hi=>by simp[hi]⟩
def Aw.same(k l:Aw):Prop:=l.tn=k.tn/\(∀j,j<k.tn->(k.T j).same (l.T j))/\l.on=k.on/\(∀j,j<k.on->(k.O j).same (l.O j))
def Aw.row(w:World)(k:Aw):Prop:=Hu w k.ta k.tn k.T/\Ia w k.oa k.on k.O
variable {ids ids' ups ups':Nat->Int}{n i:Nat}
theorem I3(h:∀i,i<n->ids' i=ids i)(x:Int):Bg ids' n x=Bg ids n x:=by
 apply Option.ext;intro j;unfold Bg;rw[List.find?_range_eq_some,List.find?_range_eq_some];constructor
 ·rintro⟨h1,h2,h3⟩;have hj:=List.mem_range.1 h2;rw[h j hj]at h1;exact⟨h1,h2,fun i hi=>by have:=h3 i hi;rw[h i (by omega)]at this;exact this⟩
 ·rintro⟨h1,h2,h3⟩;have hj:=List.mem_range.1 h2;rw[<-h j hj]at h1;exact⟨h1,h2,fun i hi=>by have:=h3 i hi;rw[<-h i (by omega)]at this;exact this⟩
theorem Wo(h:∀i,i<n->ids' i=ids i)(hu:∀i,i<n->ups' i=ups i)(hi:i<n):Jw ids' ups' n i=Jw ids ups n i:=by
 unfold Jw;rw[hu i hi,I3 h]
theorem Ss(h:∀i,i<n->ids' i=ids i)(hu:∀i,i<n->ups' i=ups i)(m:Nat)(hi:i<n):Bq ids' ups' n m i=Bq ids ups n m i:=by
 induction m generalizing i with
 |zero=>rfl
 |succ m ih=>
  simp only[Bq];rw[Wo h hu hi];cases e:Jw ids ups n i with
  |none=>rfl
  |some j=>exact ih (Ny e)
theorem Ic{p q:Nat->Bool}(h:∀i,i<n->p i=q i):(List.range n).all p=(List.range n).all q:=by
 rw[Bool.eq_iff_iff];constructor
 ·intro e;exact Er fun i hi=>by rw[<-h i hi];exact Gm e i hi
 ·intro e;exact Er fun i hi=>by rw[h i hi];exact Gm e i hi
theorem QE(h:∀i,i<n->ids' i=ids i)(hu:∀i,i<n->ups' i=ups i):Fh ids' ups' n=Fh ids ups n:=by
 unfold Fh;refine Ic fun i hi=>?_;congr 1;funext m;rw[Ss h hu m hi]
theorem Ui{t u:Ae}(h:t.same u):Ds u=Ds t:=by
 obtain⟨h1,h2,⟨a1,a2,a3⟩,h3,⟨b1,b2,b3⟩,⟨c1,c2⟩,h4⟩:=h;simp only[Ds,h1,h2,h3,h4,a1,a2,a3,b1,b2,b3,c1,c2]
theorem Tm{t u:Ab}(h:t.same u):CS u=CS t:=by
 obtain⟨h1,h2,h3,h4,⟨a1,a2,a3⟩,h5,⟨d1,d2⟩,⟨c1,c2⟩,h6,⟨b1,b2,b3⟩⟩:=h;simp only[CS,Hl,h2,h4,h5,h6,a1,a2,a3,b1,b2,b3,c1,c2,d1,d2]
theorem Tq{f g f' g':Nat->Int}(hf:∀i,i<n->f' i=f i)(hg:∀i,i<n->g' i=g i)(x:Int):look f' g' n x=look f g n x:=by
 induction n with
 |zero=>rfl
 |succ n ih=>
  rw[look,look,hf n (by omega),hg n (by omega),ih (fun i hi=>hf i (by omega)) (fun i hi=>hg i (by omega))]
theorem Cp{k l:Aw}(h:k.same l):Bj l=Bj k:=by
 obtain⟨h1,h2,h3,h4⟩:=h;have i1:∀i,i<k.on->(l.O i).id=(k.O i).id:=fun i hi=>(h4 i hi).1;have u1:∀i,i<k.on->(l.O i).up=(k.O i).up:=fun i hi=>(h4 i hi).2.2.1;have k1:∀i,i<k.on->(l.O i).kind=(k.O i).kind:=fun i hi=>(h4 i hi).2.1;have t1:∀i,i<k.tn->(l.T i).id=(k.T i).id:=fun i hi=>(h2 i hi).1;have m1:∀i,i<k.tn->(l.T i).made=(k.T i).made:=fun i hi=>(h2 i hi).2.2.2.2.2.2;by_cases h0:1<=k.on
 ·have e1:By l.tn l.T=By k.tn k.T:=by
   unfold By;rw[h1];congr 1;refine Ic fun i hi=>?_;unfold Et;rw[Ui (h2 i hi),t1 i hi];by_cases e:i=0
   ·subst e;rfl
   ·rw[t1 (i-1) (by omega)]
  have e2:Cn l.on l.O=Cn k.on k.O:=by
   unfold Cn FJ;rw[h3,i1 0 h0,u1 0 h0,k1 0 h0];congr 2;refine Ic fun i hi=>?_;unfold FY;rw[Tm (h4 i hi),i1 0 h0,i1 i hi];by_cases e:i=0
   ·subst e;rfl
   ·rw[i1 (i-1) (by omega)]
  have e3:Gx l.tn l.T l.on l.O=Gx k.tn k.T k.on k.O:=by
   unfold Gx;rw[h3];refine Ic fun i hi=>?_;unfold Fw madeOf;rw[i1 (i+1) (by omega),h1,Tq t1 m1]
  have e4:IP l.on l.O=IP k.on k.O:=by
   unfold IP;rw[h3];refine Ic fun i hi=>?_;unfold Fz;rw[u1 (i+1) (by omega),I3 i1];split
   ·rename_i u hu;rw[k1 u (Av hu).1]
   ·rfl
  unfold Bj;rw[e1,e2,e3,e4,h3,QE i1 u1]
 ·rw[Ii (k:=k) (by omega),Ii (k:=l) (by rw[h3];omega)]
inductive UK(n:Nat) (O:Nat->Ab):Int->Prop
 |root:UK n O (O 0).id
 |up {i:Nat} (h0:0<i) (hi:i<n) (h:UK n O (O i).up):UK n O (O i).id
variable {n:Nat}{x id:Int}{k:Aw}
structure Tx(k:Aw):Prop where
 thr:By k.tn k.T=true
 lo:1<=k.on
 root:FJ (k.O 0)=true
 obj:∀i,i<k.on->CS (k.O i)=true
 rise:Du (fun i=>(k.O i).id) k.on
 num:∀i,0<i->i<k.on->Fw k.tn k.T (k.O i).id=true
 box:∀i,0<i->i<k.on->∃p,p<k.on/\(k.O p).id=(k.O i).up/\(k.O p).kind=3
 reach:∀i,i<k.on->UK k.on k.O (k.O i).id
theorem KJ{ids:Nat->Int}(h:∀i,0<i->i<n->ids (i-1)<ids i):Du ids n:=by
 intro i j hij hj;induction j with
 |zero=>omega
 |succ j ih=>
  have h1:=h (j+1) (by omega) hj;have e:j+1-1=j:=by omega
  rw[e]at h1;by_cases e1:i=j
  ·subst e1;exact h1
  ·have:=ih (by omega) (by omega);omega
theorem P9{O:Nat->Ab}(h:Du (fun i=>(O i).id) n):Fz n O x=true↔∃p,p<n/\(O p).id=x/\(O p).kind=3:=by
 unfold Fz;constructor
 ·intro hh;cases e:Bg (fun i=>(O i).id) n x with
  |none=>rw[e]at hh;cases hh
  |some u=>
   rw[e]at hh;obtain⟨h1,h2⟩:=Av e;exact⟨u,h1,h2,by simpa using hh⟩
 ·rintro⟨p,h1,h2,h3⟩;have e:=Dt h h1;rw[h2]at e;rw[e];simpa using h3
theorem Xa{O:Nat->Ab}:∀{m i:Nat},i<n->Bq (fun i=>(O i).id) (fun i=>(O i).up) n m i=some 0->UK n O (O i).id
 |0,i,_,h=>by
  simp only[Bq,Option.some.injEq]at h;subst h;exact .root
 |m+1,i,hi,h=>by
  simp only[Bq]at h;cases e:Jw (fun i=>(O i).id) (fun i=>(O i).up) n i with
  |none=>rw[e]at h;cases h
  |some j=>
   rw[e]at h;have hj:=Ny e;have r:=Xa hj h;unfold Jw at e;split at e
   ·cases e
   ·rename_i h0;have:=(Av e).2;simp only at this;rw[this]at r;exact .up (by omega) hi r
theorem Yp{O:Nat->Ab}(h0:0<n)(hx:UK n O x):∃p,p<n/\(O p).id=x:=by
 induction hx with
 |root=>exact⟨0,h0,rfl⟩
 |@up q _ hq _ _=>exact⟨q,hq,rfl⟩
theorem YI{O:Nat->Ab}(h:Du (fun i=>(O i).id) n)(h0:0<n)(hx:UK n O x):∀i,i<n->(O i).id=x->∃m,Bq (fun i=>(O i).id) (fun i=>(O i).up) n m i=some 0:=by
 induction hx with
 |root=>
  intro i hi e;have:i=0:=h.inj hi h0 e;subst this;exact⟨0,rfl⟩
 |@up j hj0 hj hu ih=>
  intro i hi e;have:i=j:=h.inj hi hj e;subst this;have hp:∃p,p<n/\(O p).id=(O i).up:=Yp h0 hu;obtain⟨p,hp1,hp2⟩:=hp;obtain⟨m,hm⟩:=ih p hp1 hp2;refine⟨m+1,?_⟩;have e1:Jw (fun i=>(O i).id) (fun i=>(O i).up) n i=some p:=by
   unfold Jw;rw[if_neg (by omega)];have:=Dt h hp1;rw[hp2]at this;exact this
  simp only[Bq,e1,Option.bind_some];exact hm
theorem EJ{T:Nat->Ae}(h:By n T=true)(hn:Fw n T id=true):∃t,t<n/\(T t).id=id/1000/\1<=id%1000/\id%1000<=(T t).made:=by
 cases e:Bg (fun i=>(T i).id) n (id/1000)with
 |none=>rw[Ni h e]at hn;cases hn
 |some t=>
  obtain⟨h1,h2⟩:=Av e;rw[JY h e]at hn;have:=Ep.1 hn;exact⟨t,h1,h2,this.1,this.2⟩
theorem Rn{T:Nat->Ae}(h:By n T=true){t:Nat}(h1:t<n)(h2:(T t).id=id/1000)(h3:1<=id%1000)(h4:id%1000<=(T t).made):Fw n T id=true:=by
 have e:=Dt (Ij h) h1;rw[h2]at e;rw[JY h e];exact Ep.2 ⟨h3,h4⟩
theorem Tx.few(h:Tx k):k.on<=271:=by
 have lo:=h.lo;let g:Nat->Nat:=fun i=>(((k.O (i+1)).id/1000-1)*30+((k.O (i+1)).id%1000-1)).toNat;have hg:∀i,i<k.on-1->1<=(k.O (i+1)).id/1000/\(k.O (i+1)).id/1000<=9/\1<=(k.O (i+1)).id%1000/\(k.O (i+1)).id%1000<=30:=fun i hi=>by
  obtain⟨t,t1,t2,t3,t4⟩:=EJ h.thr (h.num (i+1) (by omega) (by omega));obtain⟨_,_,hT⟩:=Dn h.thr;have hk:=MX (hT t t1);have h1:=KR hk;have h2:=J6 hk;omega
 have hl:((List.range (k.on-1)).map g).Nodup:=by
  rw[List.Nodup,List.pairwise_map];refine List.Pairwise.imp_of_mem ?_ (List.pairwise_lt_range (n:=k.on-1));intro a b ha hb hab e;have ha':=List.mem_range.1 ha;have hb':=List.mem_range.1 hb;have ga:=hg a ha';have gb:=hg b hb';have hr:=h.rise (a+1) (b+1) (by omega) (by omega);simp only at hr;have e':g a=g b:=e;simp only[g]at e';omega
 have:=GN (n:=270) hl (fun x hx=>by
  obtain⟨i,hi,rfl⟩:=List.mem_map.1 hx;have gi:=hg i (List.mem_range.1 hi);show g i<270;simp only[g];omega)
 simp at this;omega
theorem Bt:Bj k=true↔Tx k:=by
 constructor
 ·intro h;have h1:By k.tn k.T=true:=by
   cases e:By k.tn k.T with
   |true=>rfl
   |false=>rw[GI e]at h;cases h
  have h2:1<=k.on/\k.on<=271:=by
   by_cases e:1<=k.on/\k.on<=271
   ·exact e
   ·rw[Ii e]at h;cases h
  rw[IZ h1 h2.1 h2.2,Bool.and_eq_true]at h;have hs:=Gm h.1;have hat:∀i,i<k.on->CS (k.O i)=true/\(if i=0 then FJ (k.O 0)else decide ((k.O (i-1)).id<(k.O i).id)&&Fw k.tn k.T (k.O i).id&&Fz k.on k.O (k.O i).up)=true:=fun i hi=>by
   have:=hs i hi;unfold GU at this;exact Bool.and_eq_true_iff.1 this
  have hrest:∀i,0<i->i<k.on->(k.O (i-1)).id<(k.O i).id/\Fw k.tn k.T (k.O i).id=true/\Fz k.on k.O (k.O i).up=true:=fun i h0 hi=>by
   have:=(hat i hi).2;rw[if_neg (by omega)]at this;simp only[Bool.and_eq_true,decide_eq_true_eq]at this;exact⟨this.1.1,this.1.2,this.2⟩
  have hr:Du (fun i=>(k.O i).id) k.on:=KJ fun i h0 hi=>(hrest i h0 hi).1;refine⟨h1,h2.1,?_,fun i hi=>(hat i hi).1,hr,fun i h0 hi=>(hrest i h0 hi).2.1,fun i h0 hi=>(P9 hr).1 (hrest i h0 hi).2.2,fun i hi=>?_⟩
  ·have:=(hat 0 (by omega)).2;rw[if_pos rfl]at this;exact this
  ·obtain⟨m,_,hm⟩:=Gd.1 h.2 i hi;exact Xa hi hm
 ·intro h;have h2:=h.few;rw[IZ h.thr h.lo h2,Bool.and_eq_true];refine⟨Er fun i hi=>?_,Gd.2 fun i hi=>?_⟩
  ·unfold GU;rw[h.obj i hi,Bool.true_and];by_cases e:i=0
   ·rw[if_pos e];exact h.root
   ·rw[if_neg e];have hr:=h.rise (i-1) i (by omega) hi;simp only at hr;rw[h.num i (by omega) hi,(P9 h.rise).2 (h.box i (by omega) hi),decide_eq_true hr];rfl
  ·obtain⟨m,hm⟩:=YI h.rise (by have:=h.lo;omega) (h.reach i hi) i hi rfl;exact⟨m,Nz Ga hi hm,hm⟩
variable {n i p j:Nat}{k:Aw}{x:Ab}
def Aw.setT(k:Aw)(t:Nat)(x:Ae):Aw:={k with T:=fun j=>if j=t then x else k.T j}
def Aw.setO(k:Aw)(i:Nat)(x:Ab):Aw:={k with O:=fun j=>if j=i then x else k.O j}
theorem Qb{T:Nat->Ae}(h1:1<=n)(h2:n<=9)(h:∀i,i<n->Ds (T i)=true)(hr:Du (fun i=>(T i).id) n):By n T=true:=by
 unfold By;simp only[Bool.and_eq_true,decide_eq_true_eq];refine⟨⟨h1,h2⟩,Er fun i hi=>?_⟩;unfold Et;rw[h i hi,Bool.true_and];by_cases e:i=0
 ·subst e;rfl
 ·have:=hr (i-1) i (by omega) hi;simp only at this;simp[this]
theorem Tx.setT(h:Tx k){t:Nat}{x:Ae}(hx:Ds x=true)(hid:x.id=(k.T t).id)(hm:(k.T t).made<=x.made):Tx (k.setT t x):=by
 obtain⟨n1,n9,hT⟩:=Dn h.thr;have ids:∀j,((k.setT t x).T j).id=(k.T j).id:=fun j=>by
  show(if j=t then x else k.T j).id=_;split
  ·rename_i e;rw[e,hid]
  ·rfl
 have mades:∀j,(k.T j).made<=((k.setT t x).T j).made:=fun j=>by
  show _<=(if j=t then x else k.T j).made;split
  ·rename_i e;rw[e];exact hm
  ·exact Int.le_refl _
 have hthr:By (k.setT t x).tn (k.setT t x).T=true:=by
  refine Qb n1 n9 (fun i hi=>?_) (fun i j hij hj=>?_)
  ·show Ds (if i=t then x else k.T i)=true;split
   ·exact hx
   ·exact MX (hT i hi)
  ·simp only;rw[ids,ids];exact Ij h.thr i j hij hj
 refine⟨hthr,h.lo,h.root,h.obj,h.rise,fun i h0 hi=>?_,h.box,h.reach⟩;obtain⟨u,u1,u2,u3,u4⟩:=EJ h.thr (h.num i h0 hi);exact Rn hthr (t:=u) u1 ((ids u).trans u2) u3 (Int.le_trans u4 (mades u))
theorem Wb{O P:Nat->Ab}(h0:(P 0).id=(O 0).id)(h1:∀i,i<n->(P i).id=(O i).id/\(P i).up=(O i).up){x:Int}(hx:UK n O x):UK n P x:=by
 induction hx with
 |root=>rw[<-h0];exact .root
 |@up i i0 hi _ ih=>
  rw[<-(h1 i hi).1];refine .up i0 hi ?_;rw[(h1 i hi).2];exact ih
theorem Tx.setO(h:Tx k)(hx:CS x=true)(h1:x.id=(k.O i).id)(h2:x.kind=(k.O i).kind)(h3:x.up=(k.O i).up):Tx (k.setO i x):=by
 have same:∀j,((k.setO i x).O j).id=(k.O j).id/\((k.setO i x).O j).kind=(k.O j).kind/\((k.setO i x).O j).up=(k.O j).up:=fun j=>by
  show(if j=i then x else k.O j).id=_/\(if j=i then x else k.O j).kind=_/\(if j=i then x else k.O j).up=_;split
  ·rename_i e;rw[e];exact⟨h1,h2,h3⟩
  ·exact⟨rfl,rfl,rfl⟩
 refine⟨h.thr,h.lo,?_,fun j hj=>?_,fun a b hab hb=>?_,fun j j0 hj=>?_,fun j j0 hj=>?_,fun j hj=>?_⟩
 ·have:=h.root;unfold FJ at this ⊢;rw[(same 0).1,(same 0).2.1,(same 0).2.2];exact this
 ·show CS (if j=i then x else k.O j)=true;split
  ·exact hx
  ·exact h.obj j hj
 ·simp only;rw[(same a).1,(same b).1];exact h.rise a b hab hb
 ·rw[(same j).1];exact h.num j j0 hj
 ·obtain⟨p,p1,p2,p3⟩:=h.box j j0 hj;exact⟨p,p1,by rw[(same p).1,(same j).2.2];exact p2,by rw[(same p).2.1];exact p3⟩
 ·rw[(same j).1];exact Wb (same 0).1 (fun i _=>⟨(same i).1,(same i).2.2⟩) (h.reach j hj)
def FX(O:Nat->Ab)(p:Nat)(x:Ab)(j:Nat):Ab:=if j<p then O j else if j=p then x else O (j-1)
def Aw.ins(k:Aw)(p:Nat)(x:Ab):Aw:={k with on:=k.on+1,O:=FX k.O p x}
theorem Km{O:Nat->Ab}(h:j<p):FX O p x j=O j:=by unfold FX;rw[if_pos h]
theorem Vd{O:Nat->Ab}:FX O p x p=x:=by unfold FX;rw[if_neg (Nat.lt_irrefl _),if_pos rfl]
theorem Qk{O:Nat->Ab}(h:p<j):FX O p x j=O (j-1):=by unfold FX;rw[if_neg (by omega),if_neg (by omega)]
theorem SE{O:Nat->Ab}(j:Nat):∃i,i<=j+1/\j<=i/\FX O p x i=O j/\(0<j->0<i):=by
 by_cases e:j<p
 ·exact⟨j,by omega,by omega,Km e,fun h=>h⟩
 ·refine⟨j+1,by omega,by omega,?_,fun _=>by omega⟩;rw[Qk (by omega)];rfl
theorem Tx.ins(h:Tx k)(p0:0<p)(hp:p<=k.on)(hlo:∀j,j<p->(k.O j).id<x.id)(hhi:∀j,p<=j->j<k.on->x.id<(k.O j).id)(hx:CS x=true)(hn:Fw k.tn k.T x.id=true)(hb:∃q,q<k.on/\(k.O q).id=x.up/\(k.O q).kind=3):Tx (k.ins p x):=by
 have e0:FX k.O p x 0=k.O 0:=Km p0;have cases3:∀j,j<k.on+1->(j<p/\FX k.O p x j=k.O j)∨(j=p/\FX k.O p x j=x)∨(p<j/\j-1<k.on/\FX k.O p x j=k.O (j-1)):=fun j hj=>by
  by_cases e1:j<p
  ·exact .inl ⟨e1,Km e1⟩
  ·by_cases e2:j=p
   ·exact .inr (.inl ⟨e2,by rw[e2];exact Vd⟩)
   ·exact .inr (.inr ⟨by omega,by omega,Qk (by omega)⟩)
 have mono:∀{y:Int},UK k.on k.O y->UK (k.on+1) (FX k.O p x) y:=fun{y} hy=>by
  induction hy with
  |root=>rw[<-e0];exact .root
  |@up i i0 hi _ ih=>
   obtain⟨j,j1,_,j2,j3⟩:=SE (O:=k.O) (p:=p) (x:=x) i;rw[<-j2];refine .up (j3 i0) (by omega) ?_;rw[j2];exact ih
 obtain⟨q,q1,q2,q3⟩:=hb;refine⟨h.thr,by show 1<=k.on+1;omega,?_,fun j hj=>?_,KJ fun j j0 hj=>?_,fun j j0 hj=>?_,fun j j0 hj=>?_,fun j hj=>?_⟩
 ·show FJ (FX k.O p x 0)=true;rw[e0];exact h.root
 ·show CS (FX k.O p x j)=true;rcases cases3 j hj with⟨c,e⟩|⟨_,e⟩|⟨_,c,e⟩<;>rw[e]
  ·exact h.obj j (by omega)
  ·exact hx
  ·exact h.obj _ c
 ·show(FX k.O p x (j-1)).id<(FX k.O p x j).id;rcases cases3 j hj with⟨c,e⟩|⟨c,e⟩|⟨c,c2,e⟩
  ·rw[e,Km (by omega)];exact h.rise (j-1) j (by omega) (by omega)
  ·rw[e,Km (by omega)];exact hlo _ (by omega)
  ·rw[e];by_cases e3:j-1=p
   ·rw[e3,Vd];exact hhi p nr (by omega)
   ·rw[Qk (by omega)];exact h.rise (j-1-1) (j-1) (by omega) (by omega)
 ·show Fw k.tn k.T (FX k.O p x j).id=true;rcases cases3 j hj with⟨c,e⟩|⟨_,e⟩|⟨c,c2,e⟩<;>rw[e]
  ·exact h.num j j0 (by omega)
  ·exact hn
  ·exact h.num (j-1) (by omega) c2
 ·have Jw:∀{y:Int},(∃q,q<k.on/\(k.O q).id=y/\(k.O q).kind=3)->∃r,r<k.on+1/\(FX k.O p x r).id=y/\(FX k.O p x r).kind=3:=fun⟨q,q1,q2,q3⟩=>by
   obtain⟨r,r1,_,r2,_⟩:=SE (O:=k.O) (p:=p) (x:=x) q;exact⟨r,by omega,by rw[r2];exact q2,by rw[r2];exact q3⟩
  show ∃r,r<k.on+1/\(FX k.O p x r).id=(FX k.O p x j).up/\(FX k.O p x r).kind=3;rcases cases3 j hj with⟨c,e⟩|⟨_,e⟩|⟨c,c2,e⟩<;>rw[e]
  ·exact Jw (h.box j j0 (by omega))
  ·exact Jw ⟨q,q1,q2,q3⟩
  ·exact Jw (h.box (j-1) (by omega) c2)
 ·show UK (k.on+1) (FX k.O p x) (FX k.O p x j).id;rcases cases3 j hj with⟨c,e⟩|⟨c,e⟩|⟨c,c2,e⟩
  ·rw[e];exact mono (h.reach j (by omega))
  ·refine .up (by omega) hj ?_;rw[e,<-q2];exact mono (h.reach q q1)
  ·rw[e];exact mono (h.reach _ c2)
def E9(n:Nat)(keep:Nat->Bool):List Nat:=(List.range n).filter keep
def Aw.cut(k:Aw)(keep:Nat->Bool):Aw:={k with on:=(E9 k.on keep).length,O:=fun j=>k.O ((E9 k.on keep).getD j 0)}
theorem FH{keep:Nat->Bool}(hj:j<(E9 n keep).length):(E9 n keep).getD j 0<n/\keep ((E9 n keep).getD j 0)=true:=by
 have e:(E9 n keep).getD j 0=(E9 n keep)[j]:=by simp[List.getD,hj]
 have hm:=List.getElem_mem hj;rw[e];obtain⟨h1,h2⟩:=List.mem_filter.1 hm;exact⟨List.mem_range.1 h1,h2⟩
theorem Kf{keep:Nat->Bool}(hi:i<n)(hk:keep i=true):∃j,j<(E9 n keep).length/\(E9 n keep).getD j 0=i:=by
 have hm:i∈E9 n keep:=List.mem_filter.2 ⟨List.mem_range.2 hi,hk⟩;obtain⟨j,hj,e⟩:=List.getElem_of_mem hm;exact⟨j,hj,by simp[List.getD,hj,e]⟩
theorem Ke{keep:Nat->Bool}{a b:Nat}(hab:a<b)(hb:b<(E9 n keep).length):(E9 n keep).getD a 0<(E9 n keep).getD b 0:=by
 have hp:(E9 n keep).Pairwise (· <·):=List.Pairwise.sublist List.filter_sublist (List.pairwise_lt_range (n:=n));have:=List.pairwise_iff_getElem.1 hp a b (by omega) hb hab;simpa[List.getD,hb,show a<(E9 n keep).length by omega]using this
theorem Tx.cut(h:Tx k){keep:Nat->Bool}(k0:keep 0=true)(hup:∀i p,0<i->i<k.on->p<k.on->(k.O p).id=(k.O i).up->keep i=true->keep p=true):Tx (k.cut keep):=by
 have lo:=h.lo;obtain⟨z,z1,z2⟩:=Kf (keep:=keep) (show 0<k.on by omega) k0;have zz:z=0:=by
  by_cases e:z=0
  ·exact e
  ·have:=Ke (n:=k.on) (keep:=keep) (a:=0) (b:=z) (by omega) z1;omega
 rw[zz]at z1 z2;have eO:∀j,(k.cut keep).O j=k.O ((E9 k.on keep).getD j 0):=fun _=>rfl;have e0:(k.cut keep).O 0=k.O 0:=by rw[eO,z2]
 have pos:∀{j},0<j->j<(E9 k.on keep).length->0<(E9 k.on keep).getD j 0:=fun{j} j0 hj=>by
  have:=Ke (n:=k.on) (keep:=keep) (a:=0) (b:=j) j0 hj;omega
 have stay:∀{y:Int},UK k.on k.O y->∀i,i<k.on->(k.O i).id=y->keep i=true->UK (E9 k.on keep).length (k.cut keep).O y:=fun{y} hy=>by
  induction hy with
  |root=>intro i _ _ _;rw[<-e0];exact .root
  |@up j j0 hj hu ih=>
   intro i hi e hk;have:i=j:=h.rise.inj hi hj e;subst this;obtain⟨m,m1,m2⟩:=Kf (keep:=keep) hi hk;have em:(k.cut keep).O m=k.O i:=(by rw[eO,m2]);rw[<-em];have m0:0<m:=by
    by_cases e:m=0
    ·rw[e,z2]at m2;omega
    ·omega
   refine .up m0 m1 ?_;rw[em];obtain⟨p,p1,p2,_⟩:=h.box i j0 hj;exact ih p p1 p2 (hup i p j0 hj p1 p2 hk)
 refine⟨h.thr,z1,?_,fun j hj=>?_,fun a b hab hb=>?_,fun j j0 hj=>?_,fun j j0 hj=>?_,fun j hj=>?_⟩
 ·rw[e0];exact h.root
 ·rw[eO];exact h.obj _ (FH hj).1
 ·simp only;rw[eO,eO];exact h.rise _ _ (Ke hab hb) (FH hb).1
 ·rw[eO];exact h.num _ (pos j0 hj) (FH hj).1
 ·rw[eO];obtain⟨p,p1,p2,p3⟩:=h.box _ (pos j0 hj) (FH hj).1;obtain⟨m,m1,m2⟩:=Kf (keep:=keep) p1 (hup _ p (pos j0 hj) (FH hj).1 p1 p2 (FH hj).2);exact⟨m,m1,by rw[eO,m2];exact p2,by rw[eO,m2];exact p3⟩
 ·rw[eO];exact stay (h.reach _ (FH hj).1) _ (FH hj).1 rfl (FH hj).2
open Go.Maps
open Go.WideShapes (add_plain)
variable {w:World}{B n:Nat}{f g:Nat->Int}
def Cf(f g:Nat->Int)(n:Nat):List Value:=(List.range (n*2)).map (Dm f g)
theorem Cw(f g:Nat->Int)(n:Nat):(Cf f g n).length=n*2:=by simp[Cf]
theorem Dv(f g:Nat->Int)(n j:Nat)(h:j<n*2):(Cf f g n)[j]? =some (Dm f g j):=by simp[Cf,h]
theorem Kj(f g:Nat->Int)(n:Nat):∀u∈Cf f g n,u.oneCell'=true:=by
 intro u hu;obtain⟨j,_,rfl⟩:=List.mem_map.1 hu;unfold Dm;split<;>rfl
def glue(n:Nat)(f f':Nat->Int)(i:Nat):Int:=if i<n then f i else f' (i-n)
theorem IL(f g f' g':Nat->Int)(n m:Nat):Cf f g n++Cf f' g' m=Cf (glue n f f') (glue n g g') (n+m):=by
 apply List.ext_getElem?;intro j;by_cases h1:j<n*2
 ·rw[List.getElem?_append_left (by rw[Cw];exact h1),Dv _ _ _ _ h1,Dv _ _ _ _ (by omega)];have:j/2<n:=by omega
  simp[Dm,glue,this]
 ·rw[List.getElem?_append_right (by rw[Cw];omega),Cw];by_cases h2:j<(n+m)*2
  ·rw[Dv _ _ _ _ (by omega),Dv _ _ _ _ h2];have a1:¬j/2<n:=(by omega);have a2:(j-n*2)/2=j/2-n:=(by omega);have a3:(j-n*2)%2=j%2:=(by omega);simp[Dm,glue,a1,a2,a3]
  ·rw[List.getElem?_eq_none (by rw[Cw];omega),List.getElem?_eq_none (by rw[Cw];omega)]
def AM(w:World)(B:Nat)(v:Value)(n:Nat)(f g:Nat->Int):Prop:=w.ownsRow B 78 2 v n (Cf f g n)
theorem AM.nil(w:World)(B:Nat)(f g:Nat->Int):AM w B (.slice none 0 0) 0 f g:=World.ownsRow_nil _ _ _ _
theorem AM.cats{c:Nat}{a:Option Addr}(h:AM w B (.slice a n c) n f g):AX w a n f g:=fun hn=>by
 obtain⟨gb,cap,hv,_,hlt⟩:=World.ownsRow.form h hn;simp only[Value.slice.injEq]at hv;obtain⟨rfl,_,_⟩:=hv;have hc:=World.ownsRow.cells h (g:=gb) rfl;refine⟨gb,0,rfl,hlt,fun i hi=>⟨?_,?_⟩⟩
 ·have t:=hc (i*2) _ (Dv f g n (i*2) (by omega));rw[add_plain]at t;rw[t];have e1:i*2%2=0:=by omega
  have e2:i*2/2=i:=by omega
  simp only[Dm,e1,e2,if_true]
 ·have t:=hc (i*2+1) _ (Dv f g n (i*2+1) (by omega));rw[add_plain,<-Nat.add_assoc]at t;rw[t];have e1:¬(i*2+1)%2=0:=by omega
  have e2:(i*2+1)/2=i:=by omega
  simp only[Dm,e2,if_neg e1]
theorem AM.shape{v:Value}(h:AM w B v n f g):∃a c,v= .slice a n c:=by
 rcases h.2 with⟨rfl,rfl⟩|⟨gb,cap,cur,rfl,_⟩
 ·exact⟨_,_,rfl⟩
 ·exact⟨_,_,rfl⟩
theorem Qq{b off m:Nat}(h:∀i,i<m->w.cell? ⟨b,off+i*2,none⟩=some (.int .i64 (f i))/\w.cell? ⟨b,off+i*2+1,none⟩=some (.int .i64 (g i))):
 ∀j u,(Cf f g m)[j]? =some u->w.cell? ((⟨b,off,none⟩:Addr).add j)=some u:=by
 intro j u hu;have hj:j<m*2:=by
  apply Nat.lt_of_not_le;intro hle;rw[List.getElem?_eq_none (by rw[Cw];exact hle)]at hu;cases hu
 rw[Dv _ _ _ _ hj]at hu;cases hu;obtain⟨h1,h2⟩:=h (j/2) (by omega);rw[add_plain];rcases Nat.mod_two_eq_zero_or_one j with e|e
 ·have e2:off+j/2*2=off+j:=by omega
  rw[e2]at h1;rw[h1];simp[Dm,e]
 ·have e2:off+j/2*2+1=off+j:=by omega
  rw[e2]at h2;rw[h2];simp[Dm,e]
theorem Gs(w:World)(ty B:Nat)(v:Value)(n:Nat)(f g:Nat->Int)(hown:AM w B v n f g)(a:Addr)(m c:Nat)(f' g':Nat->Int)
 (hnews:∀j u,(Cf f' g' m)[j]? =some u->w.cell? (a.add j)=some u)(hm:n+m<=4194304)(hB:B<=w.heap.size):
 ∃a' c' w',(Builtin.append_ #[28,28] ty #[v,.slice (some a) m c]).run prog w= .ok (.slice a' (n+m) c') w'/\AM w' B (.slice a' (n+m) c') (n+m) (glue n f f') (glue n g g')/\w.grownBy w' v.ownBlock/\
  ((Value.slice a' (n+m) c').ownBlock=v.ownBlock∨(Value.slice a' (n+m) c').ownBlock=some w):=by
 obtain⟨i0,hi,hz0,hz1,hz2⟩:=info_parts Tryz.info78;obtain⟨v',w',hr,h2,h3,_,h5⟩:=run_append_own_at (P:=prog) w B 28 ty 78 i0 _ 2 16 underlying28 hi hz0 hz1 hz2 rfl (by omega) v n (Cf f g n) hown a m c (Cf f' g' m) (Cw _ _ _) hnews (Kj _ _ _) (by unfold maxLen;omega) (by omega) hB;rw[IL]at h2;obtain⟨a',c',rfl⟩:=AM.shape h2;exact⟨a',c',w',hr,h2,h3,h5⟩
theorem Mu(w:World)(ty B:Nat)(v:Value)(n:Nat)(f g:Nat->Int)(hown:AM w B v n f g)(ad:Option Addr)(m c:Nat)(f' g':Nat->Int)(hc:AX w ad m f' g')
 (hm:n+m<=4194304)(hB:B<=w.heap.size):
 ∃a' c' w',(Builtin.append_ #[28,28] ty #[v,.slice ad m c]).run prog w= .ok (.slice a' (n+m) c') w'/\AM w' B (.slice a' (n+m) c') (n+m) (glue n f f') (glue n g g')/\w.grownBy w' v.ownBlock/\
  ((Value.slice a' (n+m) c').ownBlock=v.ownBlock∨(Value.slice a' (n+m) c').ownBlock=some w):=by
 by_cases h0:0<m
 ·obtain⟨b,off,rfl,_,hcc⟩:=hc h0;exact Gs w ty B v n f g hown _ m c f' g' (Qq hcc) hm hB
 ·obtain rfl:m=0:=by omega
  cases ad with
  |some a=>exact Gs w ty B v n f g hown a 0 c f' g' (fun j u hu=>by simp[Cf]at hu) hm hB
  |none=>
   obtain⟨i0,hi,hz0,hz1,hz2⟩:=info_parts Tryz.info78;have e:=IL f g f' g' n 0;have e0:Cf f' g' 0=[]:=rfl;rw[e0,List.append_nil]at e;have hown':=hown;unfold AM at hown' ⊢;rw[e]at hown';obtain⟨a',c',rfl⟩:=AM.shape hown;refine⟨a',c',w,?_,hown',⟨rfl,rfl,rfl,Nat.le_refl _,fun _ _ _=>rfl⟩,.inl rfl⟩;obtain⟨_,hx⟩:=hown;rcases hx with⟨hv,rfl⟩|⟨gb,cap,cur,hv,_,_,hnc,_⟩
   ·simp only[Value.slice.injEq]at hv;obtain⟨rfl,_,rfl⟩:=hv;simp[Builtin.append_,run_underlying underlying28,sizeOf,typeInfo,hi,Builtin.lenOf,Builtin.firstCells]
   ·simp only[Value.slice.injEq]at hv;obtain⟨rfl,_,rfl⟩:=hv;simp[Builtin.append_,run_underlying underlying28,sizeOf,typeInfo,hi,Builtin.lenOf,Builtin.firstCells,hnc,storeCells]
theorem Jh{o:Oper}{a:Act}{K:Act->World->Prop}{Q:Exit->Act->World->Prop}(w:World)(s x:Operand)
 (ho:o.op= .call {callee:= .builtin .append,args:=#[s,x],argTypes:=#[28,28]})
 (B:Nat)(v:Value)(n:Nat)(f g:Nat->Int)(hs:a.eval s=v)(hown:AM w B v n f g)(ad:Option Addr)(m c:Nat)(f' g':Nat->Int)(hx:a.eval x= .slice ad m c)(hc:AX w ad m f' g')
 (hm:n+m<=4194304)(hB:B<=w.heap.size)
 (h:∀a' c' w',AM w' B (.slice a' (n+m) c') (n+m) (glue n f f') (glue n g g')->w.grownBy w' v.ownBlock->((Value.slice a' (n+m) c').ownBlock=v.ownBlock∨(Value.slice a' (n+m) c').ownBlock=some w)->K (a.put o.dst (.slice a' (n+m) c')) w'):o.wp prog a w K Q:=by
 obtain⟨a',c',w',hr,h2,h3,h4⟩:=Mu w o.type B v n f g hown ad m c f' g' hc hm hB;unfold Oper.wp execOp;simp only[ho,resolve,invoke,builtin,Sem.run_bind,Sem.run_pure,Result.andThen_ok,List.map_toArray,List.map_cons,List.map_nil,hs,hx,hr];exact h a' c' w' h2 h3 h4
theorem GY{ops:Array Oper}{rest:List Oper}{o:Oper}{a:Act}{Q:Exit->Act->World->Prop}(w:World)(hgd:o.guard=none)(s x:Operand)
 (ho:o.op= .call {callee:= .builtin .append,args:=#[s,x],argTypes:=#[28,28]})
 (B:Nat)(v:Value)(n:Nat)(f g:Nat->Int)(hs:a.eval s=v)(hown:AM w B v n f g)(ad:Option Addr)(m c:Nat)(f' g':Nat->Int)(hx:a.eval x= .slice ad m c)(hc:AX w ad m f' g')
 (hm:n+m<=4194304)(hB:B<=w.heap.size)
 (h:∀a' c' w',AM w' B (.slice a' (n+m) c') (n+m) (glue n f f') (glue n g g')->w.grownBy w' v.ownBlock->((Value.slice a' (n+m) c').ownBlock=v.ownBlock∨(Value.slice a' (n+m) c').ownBlock=some w)->wpList prog ops Q rest (a.put o.dst (.slice a' (n+m) c')) w'):wpList prog ops Q (o::rest) a w:=
 wpList_plain hgd fun _ hK=>Jh w s x ho B v n f g hs hown ad m c f' g' hx hc hm hB fun a' c' w' h2 h3 h4=>hK _ _ (h a' c' w' h2 h3 h4)
theorem Fe{ops:Array Oper}{o:Oper}{a:Act}{K:Act->World->Prop}{Q:Exit->Act->World->Prop}{E:Prop}(w:World)(hgd:o.guard=none)(s x:Operand)
 (ho:o.op= .call {callee:= .builtin .append,args:=#[s,x],argTypes:=#[28,28]})
 (B:Nat)(v:Value)(n:Nat)(f g:Nat->Int)(hs:a.eval s=v)(hown:AM w B v n f g)(ad:Option Addr)(m c:Nat)(f' g':Nat->Int)(hx:a.eval x= .slice ad m c)(hc:AX w ad m f' g')
 (hm:n+m<=4194304)(hB:B<=w.heap.size)
 (h:∀a' c' w',AM w' B (.slice a' (n+m) c') (n+m) (glue n f f') (glue n g g')->w.grownBy w' v.ownBlock->((Value.slice a' (n+m) c').ownBlock=v.ownBlock∨(Value.slice a' (n+m) c').ownBlock=some w)->K (a.put o.dst (.slice a' (n+m) c')) w'):
 if Region.wanted o (yielded ops a.tmps)=true then Oper.wp prog o a w K Q else E:=by
 have hw:Region.wanted o (yielded ops a.tmps)=true:=by simp[Region.wanted,hgd]
 rw[if_pos hw];exact Jh w s x ho B v n f g hs hown ad m c f' g' hx hc hm hB h
theorem Pq(f f':Nat->Int):glue 0 f f'=f':=by funext i;simp[glue]
theorem Hs{ops:Array Oper}{o:Oper}{a:Act}{K:Act->World->Prop}{Q:Exit->Act->World->Prop}{E:Prop}(w:World)(hgd:o.guard=none)(s x:Operand)
 (ho:o.op= .call {callee:= .builtin .append,args:=#[s,x],argTypes:=#[28,28]})
 (B:Nat)(v:Value)(f g:Nat->Int)(hs:a.eval s=v)(hown:AM w B v 0 f g)(ad:Option Addr)(m c:Nat)(f' g':Nat->Int)(hx:a.eval x= .slice ad m c)(hc:AX w ad m f' g')
 (hm:m<=4194304)(hB:B<=w.heap.size)
 (h:∀a' c' w',AM w' B (.slice a' m c') m f' g'->w.grownBy w' v.ownBlock->((Value.slice a' m c').ownBlock=v.ownBlock∨(Value.slice a' m c').ownBlock=some w)->K (a.put o.dst (.slice a' m c')) w'):
 if Region.wanted o (yielded ops a.tmps)=true then Oper.wp prog o a w K Q else E:=by
 refine Fe w hgd s x ho B v 0 f g hs hown ad m c f' g' hx hc (by omega) hB ?_;rw[Pq,Pq,Nat.zero_add];exact h
end Go.Proofs.YteoihknaljgocaaGreatDoor
