import Derived.Test.YtphddbnadcjhgaaGreatDoorZ6
import Derived.Test.YtphddbnadcjhgaaGreatDoorZ11
import Derived.Test.YtphddbnadcjhgaaGreatDoorZ20
import Derived.Test.YtphddbnadcjhgaaGreatDoorND1
import Derived.Test.YtphddbnadcjhgaaGreatDoorZ21
set_option maxRecDepth 100000
set_option maxHeartbeats 8000000
namespace Go.Proofs.YtphddbnadcjhgaaGreatDoor
open Go Go.RowKit Go.Deep Go.Maps Go.Proofs.Tryz
def GD:Ab:=⟨0,0,0,0,⟨none,0,0,fun _=>0,fun _=>0⟩,ByteArray.mk #[],⟨none,0,0,fun _=>ByteArray.mk #[]⟩,⟨none,0,0,fun _=>0⟩,0,⟨none,0,0,fun _=>0,fun _=>0⟩⟩
theorem UP(B:Nat)(w:World):GD.new B w:=⟨⟨⟨Nat.zero_le _,fun h=>by simp[GD]at h⟩,fun h=>by simp[GD]at h⟩,⟨⟨Nat.zero_le _,fun h=>by simp[GD]at h,fun i h=>by simp[GD]at h⟩,fun h=>by simp[GD]at h⟩,⟨⟨Nat.zero_le _,fun h=>by simp[GD]at h⟩,fun h=>by simp[GD]at h⟩,⟨⟨Nat.zero_le _,fun h=>by simp[GD]at h⟩,fun h=>by simp[GD]at h⟩⟩
theorem QE:GD.apart:=fun _ _ _ h=>by simp[GD]at h
theorem Ab.same.refl(t:Ab):t.same t:=⟨rfl,rfl,rfl,rfl,⟨rfl,rfl,rfl⟩,rfl,⟨rfl,rfl⟩,⟨rfl,rfl⟩,rfl,⟨rfl,rfl,rfl⟩⟩
def Qj(k:Aq)(x:Int):Option Nat:=if AZ k=true then Bg (fun i=>(k.O i).id) k.on x else none
def Sf(k:Aq)(x:Int):Ab:=match Qj k x with
 |some i=>k.O i
 |none=>GD
theorem Ab.new.below{B:Nat}{w w':World}{t:Ab}(h:t.new B w)(hb:Below w w w'):t.new B w':=⟨h.1.below hb,h.2.1.below hb,h.2.2.1.below hb,h.2.2.2.below hb⟩
theorem Kj(tmps:Array Value)(W:World)(P:Nat)(x0 x1 x2 x3 x4 x5 x6 x7 x8 x9:Value)(b:Bool)(h:Ah W P (.cells #[x0,x1,x2,x3,x4,x5,x6,x7,x8,x9] 40))(h2:tmps[4]? =some (.pointer (some ⟨P,0,none⟩)))(h3:tmps[5]? =some (.bool b)):
 (results Tryz.f8 tmps).run prog W= .ok (.tuple #[.agg #[x0,x1,x2,x3,x4,x5,x6,x7,x8,x9],.bool b]) W:=by
 obtain⟨z0,z1,z2,z3,z4,z5,z6,z7,z8,z9⟩:=h.ten;simp[results,Tryz.results8,go_sem,h2,h3,z0,z1,z2,z3,z4,z5,z6,z7,z8,z9]
def Kz(k:Aq)(x:Int)(w w':World)(e:Ending):Prop:=∃g:Ab,e= .returned (.tuple #[g.val,.bool (Qj k x).isSome])/\(Sf k x).same g/\g.new w w'/\g.apart/\Below w w w'
theorem Kz.none{k:Aq}{x:Int}{w w':World}(h:Qj k x= .none)(hb:Below w w w'):Kz k x w w' (.returned (.tuple #[.agg #[.int .i64 0,.int .i64 0,.int .i64 0,.int .i64 0,.slice .none 0 0,.string (ByteArray.mk #[]),.slice .none 0 0,.slice .none 0 0,.int .i64 0,.slice .none 0 0],.bool false])):=
 ⟨GD,by rw[h];rfl,by rw[Sf,h];exact Ab.same.refl _,UP _ _,QE,hb⟩
theorem KY(k:Aq)(x:Int)(w:World)(hk:k.at w)(hs:k.small)(hcap:k.on<=k.ok)(hw:∀i,i<k.on->(Lit.int .i64 (k.O i).id).wf=true/\(Lit.int .i64 (k.O i).up).wf=true)(hx:(Lit.int .i64 x).wf=true):
 Calls prog 8 #[k.val,.int .i64 x] w fun e w'=>Kz k x w w' e:=by
 have n1:No (.cells #[.int .i64 0,.int .i64 0,.int .i64 0,.int .i64 0,.slice none 0 0,.string (ByteArray.mk #[]),.slice none 0 0,.slice none 0 0,.int .i64 0,.slice none 0 0] 40):=⟨⟩;have n2:No (.cells #[.slice k.ta k.tn k.tk,.slice k.oa k.on k.ok] 27):=⟨⟩;have b0:Below w w ((w.alloc n2).alloc n1):=((Below.refl _ w).alloc (Nat.le_refl _) _).alloc (by simp) _;have A0:=(Ah.new w n2).alloc n1;have R0:Ah ((w.alloc n2).alloc n1) (w.heap.size+1) n1:=by
  have:=Ah.new (w.alloc n2) n1;simpa using this
 have HK:=hid hk;have HS:=hid hs;have HW:=hid hw;have HX:=hid hx;have C1:=hid (Lh k _ (hk.below b0) hcap hw);unfold Aq.val at C1;unfold Aq.val;obtain⟨x0,x1⟩:=A0.two;have ne1:¬w.heap.size=w.heap.size+1:=by omega
 have ne2:¬w.heap.size+1=w.heap.size:=by omega
 clear hk hs hw hx;go_enter func8,ntmps8
 go_wp2_with fail
 refine C1.out.mono ?_;rintro e w1 ⟨rfl,hb1⟩;have A1:=A0.below hb1;have R1:=R0.below hb1;have B1:=Af b0 hb1;clear x0 x1 C1 A0 R0 b0 hb1;obtain⟨x0,x1⟩:=A1.two;obtain⟨r0,r1,r2,r3,r4,r5,r6,r7,r8,r9⟩:=R1.ten;have rf:=R1.warm;cases t:AZ k with
 |false=>
  have N:=hid (show Qj k x=none by simp[Qj,t]);go_wp2;refine bodyPost_ret (Kj _ _ (w.heap.size+1) _ _ _ _ _ _ _ _ _ _ false (Ah.all10 R1 _ _ _ _ _ _ _ _ _ _) rfl rfl) rfl (Kz.none N ?_);iterate 10 refine Below.setCell ?_ (by dsimp only;omega) _
  exact B1
 |true=>
  have ho:=(BD t).2.1;obtain⟨on1,on2,_,_⟩:=Bv ho;obtain⟨ob,off,eoa,_,_⟩:=HK.out.2.2.2 (by omega);have TL:Hid (Qj k x=Bg (fun i=>(k.O i).id) k.on x):=hid (by rw[Qj,if_pos t]);have C2:=hid (Iz ob off k.on k.ok k.O w1 on2 (by rw[<-eoa];exact(HK.out.below B1).2.2.2) (Bt ho) HW);rw[eoa]at x1;have EOA:=hid eoa;clear eoa t ho;go_wp2_with fail
  refine C2.out.mono ?_;rintro e w2 ⟨c,nb,kv,rfl,hN,hb2⟩;have HN:=hid hN;have R2:=R1.below hb2;have B2:=Af B1 hb2;have LK:=hN.map.look HX.out;clear hN C2 x0 x1 r0 r1 r2 r3 r4 r5 r6 r7 r8 r9 rf R1;obtain⟨r0,r1,r2,r3,r4,r5,r6,r7,r8,r9⟩:=R2.ten;have rf:=R2.warm;cases hf:Bg (fun i=>(k.O i).id) k.on x with
  |none=>
   rw[hf]at LK TL;simp only[Option.map_none]at LK;clear hf;go_wp2;refine bodyPost_ret (Kj _ _ (w.heap.size+1) _ _ _ _ _ _ _ _ _ _ false (Ah.all10 R2 _ _ _ _ _ _ _ _ _ _) rfl rfl) rfl (Kz.none TL ?_);iterate 10 refine Below.setCell ?_ (by dsimp only;omega) _
   exact B2
  |some u=>
   have hu:=(AE hf).1;rw[hf]at LK TL;simp only[Option.map_some]at LK;have y0:_=some (Value.pointer (some ⟨ob,off+u*10,none⟩)):=(HN.out.blk u hu).c0 0 rfl;obtain⟨b',off',ea,_,hcc⟩:=(HK.out.below B2).2.2.2 (by omega);have ee:=EOA.out.symm.trans ea;cases ee;obtain⟨⟨q0,q1,q2,q3,q4,q5,q6,q7,q8,q9⟩,ht⟩:=hcc u hu;have C3:=hid (KU (k.O u) w2 ht (HS.out.2.2 u hu));unfold Ab.val at C3;clear hf hcc ht ea EOA;go_wp2_with fail
   refine C3.out.mono ?_;rintro e w3 ⟨g,rfl,sg,ng,ag,hb3⟩;have R3:=R2.below hb3;have B3:=Af B2 hb3;have NG:=hid (ng.low B2.size);have SG:=hid sg;have AG:=hid ag;clear r0 r1 r2 r3 r4 r5 r6 r7 r8 r9 rf C3 R2 B2 hb3 q0 q1 q2 q3 q4 q5 q6 q7 q8 q9 sg ng ag y0 LK;obtain⟨r0,r1,r2,r3,r4,r5,r6,r7,r8,r9⟩:=R3.ten;have rf:=R3.warm;unfold Av.val AI.val As.val;go_wp2;refine bodyPost_ret (Kj _ _ (w.heap.size+1) _ _ _ _ _ _ _ _ _ _ true (Ah.all10 R3 _ _ _ _ _ _ _ _ _ _) rfl rfl) rfl ⟨g,by rw[TL.out];rfl,by rw[Sf,TL.out];exact SG.out,⟨?_,?_,?_,?_⟩,AG,?_⟩
   ·refine NG.out.1.of (by simp) (fun q hq hn'=>?_);have q2:=NG.out.1.ne R3 (by decide) q hq hn';iterate 10 rw[blk_setCell_other _ _ _ _ (by dsimp only;omega)]
   ·refine NG.out.2.1.of (by simp) (fun q hq hn'=>?_);have q2:=NG.out.2.1.ne R3 (by decide) q hq hn';iterate 10 rw[blk_setCell_other _ _ _ _ (by dsimp only;omega)]
   ·refine NG.out.2.2.1.of (by simp) (fun q hq hn'=>?_);have q2:=NG.out.2.2.1.ne R3 (by decide) q hq hn';iterate 10 rw[blk_setCell_other _ _ _ _ (by dsimp only;omega)]
   ·refine NG.out.2.2.2.of (by simp) (fun q hq hn'=>?_);have q2:=NG.out.2.2.2.ne R3 (by decide) q hq hn';iterate 10 rw[blk_setCell_other _ _ _ _ (by dsimp only;omega)]
   ·iterate 10 refine Below.setCell ?_ (by dsimp only;omega) _
    exact B3
theorem QW{n:Nat}{h:Nat->Int}:((List.range n).map h).Pairwise (· <·)↔∀i j,i<j->j<n->h i<h j:=by
 rw[List.pairwise_iff_getElem];constructor
 ·intro H i j hij hj;have:=H i j (by simp;omega) (by simp;omega) hij;simpa using this
 ·intro H i j hi hj hij;simp at hi hj;simpa using H i j hij hj
theorem Gu{n:Nat}{h:Nat->Int}:Bu n h=true↔n<=10/\((List.range n).map h).Pairwise (· <·)/\∀x∈(List.range n).map h,1<=x/\x<=9999:=by
 unfold Bu;simp only[Bool.and_eq_true,decide_eq_true_eq,List.all_eq_true,List.mem_range];constructor
 ·rintro⟨h1,h2⟩;refine⟨h1,?_,?_⟩
  ·rw[QW];refine JH (fun i i0 hi=>?_);have:=h2 i hi;unfold Dk at this;simp only[Bool.and_eq_true,Bool.or_eq_true,decide_eq_true_eq,beq_iff_eq]at this;rcases this.2 with e|e
   ·omega
   ·exact e
  ·intro x hx;obtain⟨i,hi,rfl⟩:=List.mem_map.1 hx;have:=h2 i (List.mem_range.1 hi);unfold Dk at this;simp only[Bool.and_eq_true,Cl]at this;exact this.1
 ·rintro⟨h1,h2,h3⟩;refine⟨h1,fun i hi=>?_⟩;rw[QW]at h2;unfold Dk;simp only[Bool.and_eq_true,Bool.or_eq_true,decide_eq_true_eq,beq_iff_eq,Cl];refine⟨h3 _ (List.mem_map.2 ⟨i,List.mem_range.2 hi,rfl⟩),?_⟩;by_cases e:i=0
  ·exact .inl e
  ·exact .inr (h2 (i-1) i (by omega) hi)
theorem Mx{L:List Int}(h1:L.length<=10)(h2:L.Pairwise (· <·))(h3:∀x∈L,1<=x/\x<=9999):Bu L.length (AM L)=true:=by
 rw[Gu,Pf];exact⟨h1,h2,h3⟩
theorem FR(t:Ac):t.same t:=⟨rfl,rfl,⟨rfl,rfl,rfl⟩,rfl,⟨rfl,rfl,rfl⟩,⟨rfl,rfl⟩,rfl⟩
theorem Qs{α:Type}{l:List α}{t j:Nat}{x z:α}(hj:j<l.length):(l.set t x).getD j z=if j=t then x else l.getD j z:=by
 rw[List.getD_eq_getElem?_getD,List.getD_eq_getElem?_getD,List.getElem?_set];by_cases e:t=j
 ·subst e;simp[hj]
 ·have e':¬j=t:=fun h=>e h.symm;simp[e,e']
section
variable {lt:List Ac}{lo:List Ab} (ok:okL lt lo=true)
include ok
theorem Iv{t:Nat}(ht:t<lt.length){x:Ac}(hx:Nf x)(hi:x.id=lt[t].id)(hm:lt[t].made<=x.made):okL (lt.set t x) lo=true:=by
 have e:(Ck none 0 none 0 lt lo).T t=lt[t]:=Eu ht;have k:=(BN.1 ok).setT (t:=t) (Hh.2 hx) (by rw[e];exact hi) (by rw[e];exact hm);have h:=BN.2 k;refine(Cc ?_).trans h;refine⟨by simp[Ck,Aq.setT],fun j hj=>?_,rfl,fun j hj=>Ab.same.refl _⟩;have hj':j<lt.length:=hj;have e2:(Ck none 0 none 0 (lt.set t x) lo).T j=((Ck none 0 none 0 lt lo).setT t x).T j:=Qs hj';rw[e2];exact FR _
theorem J6{u:Nat}(hu:u<lo.length){x:Ab}(hx:LR x)(h1:x.id=lo[u].id)(h2:x.kind=lo[u].kind)(h3:x.up=lo[u].up):okL lt (lo.set u x)=true:=by
 have e:(Ck none 0 none 0 lt lo).O u=lo[u]:=AW hu;have k:=(BN.1 ok).setO (i:=u) (Ii.2 hx) (by rw[e];exact h1) (by rw[e];exact h2) (by rw[e];exact h3);have h:=BN.2 k;refine(Cc ?_).trans h;refine⟨rfl,fun j hj=>FR _,by simp[Ck,Aq.setO],fun j hj=>?_⟩;have hj':j<lo.length:=hj;have e2:(Ck none 0 none 0 lt (lo.set u x)).O j=((Ck none 0 none 0 lt lo).setO u x).O j:=Qs hj';rw[e2];exact Ab.same.refl _
theorem Hc:Aa lo 0=Aa lo 0/\(Aa lo 0).id=1/\(Aa lo 0).up=0:=by
 have r:=(BN.1 ok).root;unfold Fo at r;simp only[Bool.and_eq_true,beq_iff_eq]at r;exact⟨rfl,r.1.1,r.2⟩
theorem X9{j:Nat}(hj:j<lo.length):1<=(Aa lo j).id:=by
 have r:=(Hc ok).2.1;by_cases e:j=0
 ·subst e;omega
 ·have h:=(BN.1 ok).rise 0 j (by omega) hj;have h':(Aa lo 0).id<(Aa lo j).id:=h;omega
end
theorem M5(x:Ab):∀lo:List Ab,∃p,p<=lo.length/\Cd x lo=lo.take p++x::lo.drop p/\(∀j,j<p->¬x.id<(Aa lo j).id)/\(p<lo.length->x.id<(Aa lo p).id)
 |[]=>⟨0,Nat.le_refl _,rfl,fun j hj=>absurd hj (Nat.not_lt_zero j),fun h=>absurd h (Nat.not_lt_zero 0)⟩
 |y::r=>by
  by_cases h:x.id<y.id
  ·refine⟨0,Nat.zero_le _,by simp[Cd,h],fun j hj=>absurd hj (Nat.not_lt_zero j),fun _=>?_⟩;simpa[Aa]using h
  ·obtain⟨p,h1,h2,h3,h4⟩:=M5 x r;refine⟨p+1,by simpa using h1,by simp[Cd,h,h2],fun j hj=>?_,fun hp=>?_⟩
   ·cases j with
    |zero=>simpa[Aa]using h
    |succ j=>have:=h3 j (by omega);simpa[Aa]using this
   ·have:=h4 (by simpa using hp);simpa[Aa]using this
theorem Zm{lo:List Ab}{p j:Nat}{x:Ab}(hp:p<=lo.length):Aa (lo.take p++x::lo.drop p) j=Fu (Aa lo) p x j:=by
 unfold Aa Fu;simp only[List.getD_eq_getElem?_getD];have lp:(lo.take p).length=p:=by simp[hp]
 by_cases h1:j<p
 ·rw[if_pos h1,List.getElem?_append_left (by omega),List.getElem?_take_of_lt h1]
 ·rw[if_neg h1,List.getElem?_append_right (by omega),lp];by_cases h2:j=p
  ·subst h2;simp
  ·rw[if_neg h2];obtain⟨m,rfl⟩:∃m,j=p+m+1:=⟨j-p-1,by omega⟩;have e:p+m+1-p=m+1:=(by omega);rw[e,List.getElem?_cons_succ,List.getElem?_drop];congr 2
theorem Yr{lt:List Ac}{lo:List Ab}(ok:okL lt lo=true){x:Ab}(hx:LR x)(hn:Ex lt.length (AY lt) x.id=true){u:Nat}(hu:Gx lo x.up=some u)(hk:(Aa lo u).kind=3)(hne:∀j,j<lo.length->(Aa lo j).id≠x.id)(h1:1<x.id):okL lt (Cd x lo)=true:=by
 obtain⟨p,hp,e,lo',hi'⟩:=M5 x lo;have kk:=BN.1 ok;have u1:=AE hu;have p0:0<p:=by
  by_cases h:p=0
  ·subst h;have:=hi' (by have:=El ok;omega);have:=(Hc ok).2.1;omega
  ·omega
 have k:=kk.ins (p:=p) (x:=x) p0 hp (fun j hj=>by
  have h1:=lo' j hj;have h2:=hne j (by omega);show(Aa lo j).id<x.id;omega) (fun j hj hjn=>by
  have h0:=hi' (by have:j<lo.length:=hjn;omega);show x.id<(Aa lo j).id;by_cases ej:j=p
  ·subst ej;exact h0
  ·have h2:(Aa lo p).id<(Aa lo j).id:=kk.rise p j (by omega) hjn;omega) (Ii.2 hx) hn ⟨u,u1.1,u1.2,hk⟩
 have h:=BN.2 k;refine(Cc ?_).trans h;have el:(Cd x lo).length=lo.length+1:=MS;refine⟨rfl,fun j hj=>FR _,el,fun j hj=>?_⟩;have e2:(Ck none 0 none 0 lt (Cd x lo)).O j=((Ck none 0 none 0 lt lo).ins p x).O j:=by
  show Aa (Cd x lo) j=Fu (Aa lo) p x j;rw[e];exact Zm hp
 rw[e2];exact Ab.same.refl _
theorem WQ{G:List Int}{x:Int}:hasB G.length (AM G) x=true↔x∈G:=by
 unfold hasB;rw[List.any_eq_true];constructor
 ·rintro⟨i,hi,e⟩;have hi':=List.mem_range.1 hi;have:AM G i=x:=by simpa using e
  rw[<-this];unfold AM;rw[List.getD_eq_getElem?_getD,List.getElem?_eq_getElem hi'];exact List.getElem_mem hi'
 ·intro h;obtain⟨i,hi,e⟩:=List.mem_iff_getElem.1 h;exact⟨i,List.mem_range.2 hi,by simp[AM,hi,e]⟩
theorem Zo(lo:List Ab):(List.range lo.length).map (Aa lo)=lo:=by
 refine List.ext_getElem (by simp) (fun i h1 h2=>?_);simp[Aa,h2]
theorem X6{lt:List Ac}{lo:List Ab}(ok:okL lt lo=true){x:Int}{u:Nat}(hu:Gx lo x=some u)(u0:0<u):okL lt (DX (CZ lo u) lo lo.length)=true:=by
 have kk:=BN.1 ok;obtain⟨ul,_⟩:=AE hu;have h0:∀j,j<lo.length->(fun i=>(Aa lo i).id) j≠(fun i=>(Aa lo i).up) 0:=fun j hj=>by
  have:=X9 ok hj;have:=(Hc ok).2.2;show(Aa lo j).id≠(Aa lo 0).up;omega
 have rise:Db (fun i=>(Aa lo i).id) lo.length:=kk.rise;have hc:GM (fun i=>(Aa lo i).id) (fun i=>(Aa lo i).up) lo.length u:=Ks ok ul;have gone:∀y,hasB (CZ lo u).length (AM (CZ lo u)) y=true↔∃i,i<lo.length/\(∃m,m<lo.length/\Bi (fun i=>(Aa lo i).id) (fun i=>(Aa lo i).up) lo.length m i=some u)/\(Aa lo i).id=y:=by
  intro y;rw[WQ];unfold CZ;rw[Kc,List.mem_map];constructor
  ·rintro⟨i,hi,e⟩;have:=(DO rise h0 ul).1 hi;exact⟨i,this.1,this.2,e⟩
  ·rintro⟨i,h1,h2,e⟩;exact⟨i,(DO rise h0 ul).2 ⟨h1,h2⟩,e⟩
 have k:=kk.cut (keep:=fun i=> !hasB (CZ lo u).length (AM (CZ lo u)) (Aa lo i).id) (by
  simp only[Bool.not_eq_true'];rw[<-Bool.not_eq_true,gone];rintro⟨i,hi,⟨m,_,hm⟩,e⟩;have e0:i=0:=rise.inj hi (by omega) e;subst e0;cases m with
  |zero=>simp[Bi]at hm;omega
  |succ m=>simp[Bi,IM]at hm) (fun i p i0 hi hp e hk=>by
  simp only[Bool.not_eq_true']at hk ⊢;rw[<-Bool.not_eq_true,gone]at hk ⊢;rintro⟨j,hj,⟨m,_,hm⟩,ej⟩;have e1:j=p:=rise.inj hj hp ej;subst e1;refine hk ⟨i,hi,?_,rfl⟩;have pi:IM (fun i=>(Aa lo i).id) (fun i=>(Aa lo i).up) lo.length i=some j:=by
   unfold IM;rw[if_neg (by omega)];have e':(Aa lo i).up=(Aa lo j).id:=e.symm;show Bg (fun i=>(Aa lo i).id) lo.length (Aa lo i).up=some j;rw[e'];exact Dj rise hp
  have pm:Bi (fun i=>(Aa lo i).id) (fun i=>(Aa lo i).up) lo.length (1+m) i=some u:=by
   rw[Eh,OD,pi];exact hm
  exact⟨1+m,Mi hc hi pm,pm⟩)
 have h:=BN.2 k;refine(Cc ?_).trans h;have es:DX (CZ lo u) lo lo.length=(DU lo.length (fun i=> !hasB (CZ lo u).length (AM (CZ lo u)) (Aa lo i).id)).map (Aa lo):=by
  unfold DX DU;rw[List.take_length];generalize CZ lo u=G;have e1:lo.filter (fun o=> !hasB G.length (AM G) o.id)=((List.range lo.length).map (Aa lo)).filter (fun o=> !hasB G.length (AM G) o.id):=by rw[Zo]
  rw[e1,List.filter_map];rfl
 refine⟨rfl,fun j hj=>FR _,by show(DX _ lo lo.length).length=_;rw[es];simp[Aq.cut,Ck],fun j hj=>?_⟩;have e2:(Ck none 0 none 0 lt (DX (CZ lo u) lo lo.length)).O j=((Ck none 0 none 0 lt lo).cut (fun i=> !hasB (CZ lo u).length (AM (CZ lo u)) (Aa lo i).id)).O j:=by
  have hj':j<(DU lo.length (fun i=> !hasB (CZ lo u).length (AM (CZ lo u)) (Aa lo i).id)).length:=hj;show Aa (DX (CZ lo u) lo lo.length) j=Aa lo ((DU lo.length (fun i=> !hasB (CZ lo u).length (AM (CZ lo u)) (Aa lo i).id)).getD j 0);rw[es];rw[AW (by simpa using hj')];simp[hj']
 rw[e2];exact Ab.same.refl _
theorem MM{b:Int}{c d:Av}(h:c.same d)(hl:AH b c.n c.f c.g=true):AH b d.n d.f d.g=true:=by
 obtain⟨h1,h2,h3⟩:=h;rw[h1,h2,h3];exact hl
theorem XG{n:Nat}{T:Nat->Ac}(h:Bo n T=true):Db (fun i=>(T i).id) n:=JH fun i i0 hi=>by
 have:=(Cp h).2.2 i hi;unfold Dq at this;simp only[Bool.and_eq_true,Bool.or_eq_true,decide_eq_true_eq,beq_iff_eq]at this;rcases this.2 with e|e
 ·omega
 ·exact e
theorem Vn{X:Ac}(h:Nf X):1001<=BI X/\BI X<=9999:=by
 have:=h.id;have:=h.made;unfold BI;omega
theorem TR{lt:List Ac}{t:Nat}(ht:t<lt.length):lt.set t lt[t]=lt:=Gn ht
theorem YA{X:Ac}(h:Nf X)(hn:¬X.own.n=10){L:List Int}(e:L=Dx ((List.range X.own.n).map X.own.h) (BI X)):Bu L.length (AM L)=true:=by
 obtain⟨h1,h2,h3⟩:=Gu.1 h.own;subst e;refine Mx ?_ (I4 h2) (fun x hx=>?_)
 ·have:=J5 ((List.range X.own.n).map X.own.h) (BI X);simp at this;omega
 ·rcases Ms hx with hx|hx
  ·exact h3 x hx
  ·have:=Vn h;omega
theorem XK{h:Nat->Int}{c:Int}{n:Nat}{x:Int}(hx:x∈Dl h c n):x∈(List.range n).map h:=(List.mem_filter.1 hx).1
theorem WG{n:Nat}{h:Nat->Int}{c:Int}(ho:Bu n h=true):Bu (Dl h c n).length (AM (Dl h c n))=true:=by
 obtain⟨h1,h2,h3⟩:=Gu.1 ho;refine Mx ?_ (h2.filter _) (fun x hx=>h3 x (XK hx));have:=Ke h c n;omega
theorem Sc{L:List Int}{h:Nat->Int}:∀{q:Nat}{x:Int},x∈DG L h q->x∈L∨∃i,i<q/\x=h i
 |0,x,hx=> .inl hx
 |q+1,x,hx=>by
  rcases Ms hx with hx|hx
  ·rcases Sc hx with hx|⟨i,hi,e⟩
   ·exact .inl hx
   ·exact .inr ⟨i,by omega,e⟩
  ·exact .inr ⟨q,by omega,hx⟩
theorem MY{L:List Int}{h:Nat->Int}(hL:L.Pairwise (· <·)):∀q,(DG L h q).Pairwise (· <·)
 |0=>hL
 |q+1=>I4 (MY hL q)
theorem Lb:Bm ⟨#[]⟩ 40=true:=by decide
theorem Vk{X:Ac}{s:Al}(sf:Ug s){d1 d2:Av}{ow:AI}(hk:s.kind=2∨s.kind=3∨s.kind=4∨s.kind=5)(e1:s.c1.same d1)(e2:if s.kind=5 then s.c2.same d2 else d2=Am)(e3:if 0<s.cat then ow.n=1/\ow.h 0=s.cat else ow=Fa):LR (newObj X s d1 d2 ow):=by
 have hw:Bu ow.n ow.h=true:=by
  by_cases h:0<s.cat
  ·rw[if_pos h]at e3;have hc:=sf.cat;have e:(s.cat==0)=false:=(by simp only[beq_eq_false_iff_ne,ne_eq];omega);unfold Lv at hc;rw[e]at hc;simp only[Bool.false_eq_true,if_false,Bool.and_eq_true,Cl]at hc;rw[e3.1];simp[Bu,Dk,e3.2,Ds];omega
  ·rw[if_neg h]at e3;rw[e3];rfl
 have h2:AH (newObj X s d1 d2 ow).b2 d2.n d2.f d2.g=true:=by
  unfold newObj;by_cases h:s.kind=5
  ·rw[if_pos h]at e2;simp only[if_pos h];exact MM e2 sf.l2
  ·rw[if_neg h]at e2;simp only[if_neg h];rw[e2];rfl
 refine⟨MM e1 sf.l1,h2,hw,Lb,rfl,?_⟩;have ce:=Nc sf;have noCat:s.kind≠5->ow=Fa:=fun h=>by
  have:=ce.1 (by omega);rw[if_neg (by omega)]at e3;exact e3
 unfold newObj Gm;rcases hk with h|h|h|h
 ·have e4:=noCat (by omega);rw[if_neg (by omega)]at e2;subst e2;subst e4;simp[h,Dd,Am,Fa]
 ·have e4:=noCat (by omega);rw[if_neg (by omega)]at e2;subst e2;subst e4;simp[h,Dd,Am,Fa]
 ·have e4:=noCat (by omega);rw[if_neg (by omega)]at e2;subst e2;subst e4;simp[h,Dd,Am,Fa]
 ·simp[h]
theorem Wq{lt:List Ac}{lo:List Ab}(ok:okL lt lo=true){t:Nat}(ht:t<lt.length){s:Al}(so:s.ok=true)(hk:s.kind=2∨s.kind=3∨s.kind=4∨s.kind=5){c:Int}{tx:ByteArray}{lt':List Ac}{lo':List Ab}(p:Xd lt[t] s lt lo t c tx lt' lo'):okL lt' lo'=true:=by
 rcases p with⟨_,_,_,rfl,rfl⟩|⟨_,_,_,_,rfl,rfl⟩|⟨_,mb,m30,_,rfl,d1,d2,ow,e1,e2,e3,rfl⟩
 ·exact ok
 ·exact ok
 ·have X:=Fg ok _ (List.getElem_mem ht);have m1:=X.made;have i1:=X.id;have ok1:=Iv ok ht (x:=⟨lt[t].id,lt[t].b1,lt[t].c1,lt[t].b2,lt[t].c2,lt[t].own,lt[t].made+1⟩) ⟨X.id,X.l1,X.l2,X.own,by dsimp only;omega⟩ rfl (by dsimp only;omega);unfold Li at mb;cases hu:Gx lo s.id with
  |none=>rw[hu]at mb;cases mb
  |some u=>
   rw[hu]at mb;simp only[Bool.and_eq_true,decide_eq_true_eq]at mb;have kk:=BN.1 ok;have k1:=BN.1 ok1;have nc:BI lt[t]=1000*lt[t].id+lt[t].made+1:=rfl;refine Yr ok1 (Vk (Nl so) hk e1 e2 e3) ?_ hu mb.1.1.1.1 (fun j hj=>?_) (by show 1<BI lt[t];omega)
   ·have et:AY (lt.set t (⟨lt[t].id,lt[t].b1,lt[t].c1,lt[t].b2,lt[t].c2,lt[t].own,lt[t].made+1⟩:Ac)) t=⟨lt[t].id,lt[t].b1,lt[t].c1,lt[t].b2,lt[t].c2,lt[t].own,lt[t].made+1⟩:=by
     have:=Qs (l:=lt) (t:=t) (j:=t) (x:=(⟨lt[t].id,lt[t].b1,lt[t].c1,lt[t].b2,lt[t].c2,lt[t].own,lt[t].made+1⟩:Ac)) (z:=Ac.z) ht;rw[if_pos rfl]at this;exact this
    refine Ri k1.thr (t:=t) (by simpa[Ck]using ht) ?_ ?_ ?_
    ·show(AY _ t).id=BI lt[t]/1000;rw[et];show lt[t].id=BI lt[t]/1000;omega
    ·show 1<=BI lt[t]%1000;omega
    ·show BI lt[t]%1000<=(AY _ t).made;rw[et];show BI lt[t]%1000<=lt[t].made+1;omega
   ·intro e;have e':(Aa lo j).id=BI lt[t]:=e;by_cases h0:j=0
    ·subst h0;have:=(Hc ok).2.1;omega
    ·obtain⟨t',h1,h2,h3,h4⟩:=FQ kk.thr (kk.num j (by omega) hj);have g1:(AY lt t').id=(Aa lo j).id/1000:=h2;have g2:(Aa lo j).id%1000<=(AY lt t').made:=h4;have g3:(AY lt t).id=lt[t].id:=(by rw[Eu ht]);have e3:t'=t:=(XG kk.thr).inj h1 ht (by show(AY lt t').id=(AY lt t).id;rw[g1,g3,e'];omega);subst e3;rw[Eu ht,e']at g2;omega
theorem Uc{o:Ab}(f:LR o){d:ByteArray}(h1:o.kind=1)(hd:Bm d 40=true):LR ⟨o.id,o.kind,o.up,o.b1,o.c1,d,o.items,o.own,o.b2,o.c2⟩:=by
 refine⟨f.l1,f.l2,f.own,hd,f.items,?_⟩;have:=f.kind;unfold Gm at this ⊢;simp only[h1,if_true]at this ⊢;exact this
theorem QI{o:Ab}(f:LR o){d:As}(h1:o.kind=2)(hd:Dt d.n d.f=true):LR ⟨o.id,o.kind,o.up,o.b1,o.c1,o.data,d,o.own,o.b2,o.c2⟩:=by
 refine⟨f.l1,f.l2,f.own,f.data,hd,?_⟩;have:=f.kind;unfold Gm at this ⊢;simp only[h1]at this ⊢;exact this
theorem I3{n:Nat}{f:Nat->ByteArray}:Dt n f=true↔n<=8/\∀i,i<n->Bm (f i) 40=true:=by
 unfold Dt;simp only[Bool.and_eq_true,decide_eq_true_eq,List.all_eq_true,List.mem_range]
theorem YD{lt:List Ac}{lo:List Ab}(ok:okL lt lo=true){t:Nat}(ht:t<lt.length){s:Al}(so:s.ok=true){c:Int}{tx:ByteArray}{lt':List Ac}{lo':List Ab}(p:FZ lt[t] s lt lo t c tx lt' lo'):okL lt' lo'=true:=by
 have X:=Fg ok _ (List.getElem_mem ht);have sf:=Nl so;cases p with
 |k1 h x e1 e2 p=>
  subst e1 e2;rcases p with⟨_,_,rfl,_⟩|⟨_,hn,_,a,cc,rfl⟩
  ·rw[TR ht];exact ok
  ·have:=X.made;exact Iv ok ht ⟨X.id,X.l1,X.l2,YA X (fun e=>hn (.inr e)) rfl,by dsimp only;omega⟩ rfl (by dsimp only;omega)
 |k12 h x e1 e2 e3 p=>
  subst e1 e2;rcases p with⟨_,_,rfl⟩|⟨_,_,d,sd,rfl⟩
  ·rw[TR ht];exact ok
  ·exact Iv ok ht ⟨X.id,MM sd sf.l1,X.l2,X.own,X.made⟩ rfl (Int.le_refl _)
 |k14 h x e1 e2 e3 p=>
  subst e1 e2;rcases p with⟨_,_,rfl⟩|⟨_,_,a,cc,rfl⟩
  ·rw[TR ht];exact ok
  ·exact Iv ok ht ⟨X.id,X.l1,X.l2,WG X.own,X.made⟩ rfl (Int.le_refl _)
 |make h p=>exact Wq ok ht so h p
 |drop h e1 e3 p=>
  subst e1;rcases p with⟨_,_,rfl⟩|⟨_,_,u,hu,u0,rfl⟩
  ·exact ok
  ·exact X6 ok hu u0
 |k6 h p=>
  rcases p with⟨_,_,_,rfl,rfl⟩|⟨u,hu,⟨_,_,_,rfl,rfl⟩|⟨_,_,_,rfl,rfl⟩⟩
  ·exact ok
  ·exact ok
  ·obtain⟨_,ul,i1,k1,_⟩:=Df hu;rw[AW ul];exact J6 ok ul (Uc (Ec ok _ (List.getElem_mem ul)) k1 sf.data) rfl rfl rfl
 |k7 h p=>
  rcases p with⟨_,_,_,rfl,rfl⟩|⟨u,hu,_,_,rfl,rfl⟩
  ·exact ok
  ·exact ok
 |k8 h p=>
  rcases p with⟨_,_,_,rfl,rfl⟩|⟨u,hu,⟨_,_,_,rfl,rfl⟩|⟨v,hv,⟨_,_,_,rfl,rfl⟩|⟨kv,_,_,_,rfl,rfl⟩⟩⟩
  ·exact ok
  ·exact ok
  ·exact ok
  ·obtain⟨_,ul,_⟩:=Df hu;obtain⟨vl,_⟩:=Gs hv;rw[AW vl]at kv;rw[AW vl,AW ul];exact J6 ok vl (Uc (Ec ok _ (List.getElem_mem vl)) kv (Ec ok _ (List.getElem_mem ul)).data) rfl rfl rfl
 |k9 h p=>
  rcases p with⟨_,_,_,rfl,rfl⟩|⟨u,hu,⟨_,_,_,rfl,rfl⟩|⟨_,_,_,_,rfl,rfl⟩|⟨_,n8,_,_,rfl,a,c',rfl⟩⟩
  ·exact ok
  ·exact ok
  ·exact ok
  ·obtain⟨_,ul,i1,k1,_⟩:=Df hu;rw[AW ul]at n8 ⊢;have f:=Ec ok _ (List.getElem_mem ul);have it:=I3.1 f.items;refine J6 ok ul (QI f k1 (I3.2 ⟨by dsimp only;omega,fun i hi=>?_⟩)) rfl rfl rfl;dsimp only;unfold Cv;split
   ·rename_i h1;exact it.2 i h1
   ·exact sf.data
 |k10 h p=>
  rcases p with⟨_,_,_,rfl,rfl⟩|⟨u,hu,⟨_,_,_,rfl,rfl⟩|⟨_,_,_,_,rfl,rfl⟩|⟨_,n0,_,_,rfl,a,c',rfl⟩⟩
  ·exact ok
  ·exact ok
  ·exact ok
  ·obtain⟨_,ul,i1,k1,_⟩:=Df hu;rw[AW ul]at n0 ⊢;have f:=Ec ok _ (List.getElem_mem ul);have it:=I3.1 f.items;refine J6 ok ul (QI f k1 (I3.2 ⟨by dsimp only;omega,fun i hi=>?_⟩)) rfl rfl rfl;dsimp only at hi ⊢;exact it.2 (i+1) (by omega)
 |k13 h p=>
  rcases p with⟨_,_,_,rfl,rfl⟩|⟨u,hu,⟨_,_,_,rfl,rfl⟩|⟨_,_,_,_,rfl,rfl⟩|⟨_,nb,_,_,a,c',rfl,rfl⟩⟩
  ·exact ok
  ·exact ok
  ·exact ok
  ·obtain⟨_,ul,i1,k1,_⟩:=Df hu;rw[AW ul]at nb ⊢;have f:=Ec ok _ (List.getElem_mem ul);obtain⟨_,x2,x3⟩:=Gu.1 X.own;obtain⟨_,_,f3⟩:=Gu.1 f.own;refine Iv ok ht ⟨X.id,X.l1,X.l2,Mx (by omega) (MY x2 _) (fun x hx=>?_),X.made⟩ rfl (Int.le_refl _);rcases Sc hx with hx|⟨i,hi,rfl⟩
   ·exact x3 x hx
   ·exact f3 _ (List.mem_map.2 ⟨i,List.mem_range.2 hi,rfl⟩)
 |k15 h p=>
  rcases p with⟨_,_,_,rfl,rfl⟩|⟨u,hu,_,_,rfl,rfl⟩
  ·exact ok
  ·exact ok
theorem JI{lt:List Ac}{lo:List Ab}(ok:okL lt lo=true){s:Al}{c:Int}{tx:ByteArray}{lt':List Ac}{lo':List Ab}(p:FM lt lo s c tx lt' lo'):okL lt' lo'=true:=by
 cases p with
 |form h hc ht e1 e2=>subst e1 e2;exact ok
 |thread h hn hc ht e1 e2=>subst e1 e2;exact ok
 |act h t ht hn p=>exact YD ok ht h p
open Go.BigFrame Go.Shelf
def Pp(i:Nat):Ac:=⟨i,1,Am,2,Am,Fa,0⟩
def Fp(j:Nat):List Ac:=(List.range j).map (fun i=>Pp (i+1))
def NY:Ab:=⟨1,3,0,1,Am,⟨#[]⟩,⟨none,0,0,fun _=>⟨#[]⟩⟩,Fa,0,Am⟩
theorem FG(j:Nat):(Fp j).length=j:=by simp[Fp]
theorem SE(j:Nat):Fp (j+1)=Fp j++[Pp (j+1)]:=by simp[Fp,List.range_succ]
theorem XH(w:World)(B:Nat)(hb:B<=w.heap.size):Ba (w.alloc (.cells #[.int .i64 1,.int .i64 3,.int .i64 0,.int .i64 1,.slice none 0 0,.string (ByteArray.mk #[]),.slice none 0 0,.slice none 0 0,.int .i64 0,.slice none 0 0] 40)) B (.slice (some ⟨w.heap.size,0,none⟩) 1 1) [NY]:=by
 refine⟨rfl,.inr ⟨w.heap.size,1,#[.int .i64 1,.int .i64 3,.int .i64 0,.int .i64 1,.slice none 0 0,.string (ByteArray.mk #[]),.slice none 0 0,.slice none 0 0,.int .i64 0,.slice none 0 0],rfl,hb,heap_alloc_new w _,Nat.le_refl _,by unfold maxLen;omega,rfl,?_⟩⟩;rfl
theorem MW{m i:Nat}(hi:i<m):AY (Fp m) i=Pp (i+1):=by
 rw[Eu (by rw[FG];exact hi)];simp[Fp]
theorem X8:LR NY:=⟨rfl,rfl,rfl,Lb,rfl,by simp[Gm,NY,Dd,Am,Fa]⟩
theorem Yl{m:Nat}(h1:1<=m)(h9:m<=9):okL (Fp m) [NY]=true:=by
 refine BN.2 ⟨?_,Nat.le_refl _,rfl,fun i hi=>?_,fun i j hij hj=>?_,fun i i0 hi=>?_,fun i i0 hi=>?_,fun i hi=>?_⟩
 ·show Bo (Fp m).length (AY (Fp m))=true;rw[FG];refine OY h1 h9 (fun i hi=>?_) (fun i j hij hj=>?_)
  ·rw[MW hi];exact Hh.2 ⟨by simp[Pp];omega,rfl,rfl,rfl,by simp[Pp]⟩
  ·show(AY (Fp m) i).id<(AY (Fp m) j).id;rw[MW (by omega),MW hj];simp[Pp];omega
 ·have hi':i<1:=hi;obtain rfl:i=0:=by omega
  exact Ii.2 X8
 ·have hj':j<1:=hj;omega
 ·have hi':i<1:=hi;omega
 ·have hi':i<1:=hi;omega
 ·have hi':i<1:=hi;obtain rfl:i=0:=by omega
  exact Sv.root
theorem Q6(tmps:Array Value)(W:World)(P:Nat)(x y:Value)(h:Ah W P (.cells #[x,y] 27))(h2:tmps[2]? =some (.pointer (some ⟨P,0,none⟩)))(h3:tmps[3]? =some (.bool true)):
 (results Tryz.f25 tmps).run prog W= .ok (.tuple #[.agg #[x,y],.bool true]) W:=by
 obtain⟨z0,z1⟩:=h.two;simp[results,Tryz.results25,go_sem,h2,h3,z0,z1]
theorem Oh(m:Nat)(w:World)(h1:1<=m)(h9:m<=9):
 Calls prog 25 #[.int .i64 m] w fun e w'=>∃(ta oa:Option Addr) (ca co:Nat),e= .returned (.tuple #[.agg #[.slice ta (Fp m).length ca,.slice oa 1 co],.bool true])/\Bz w' w.heap.size (.slice ta (Fp m).length ca) (.slice oa [NY].length co) (Fp m) [NY]/\Below w.heap.size w w':=by
 have I1:Ds (m:Int) 1 9=true:=by simp[Ds];omega
 have C1:=hid (BJ (m:Int) 1 9 (w.alloc (.cells #[.slice none 0 0,.slice none 0 0] 27)));rw[I1]at C1;have R0:Hid (Ah (((w.alloc (.cells #[.slice none 0 0,.slice none 0 0] 27)).alloc (.cells #[.int .i64 1,.int .i64 3,.int .i64 0,.int .i64 1,.slice none 0 0,.string (ByteArray.mk #[]),.slice none 0 0,.slice none 0 0,.int .i64 0,.slice none 0 0] 40)).alloc (.cells #[.slice none 0 0,.slice (some ⟨w.heap.size+1,0,none⟩) 1 1] 27)) w.heap.size (.cells #[.slice none 0 0,.slice none 0 0] 27)):=hid (((Ah.new w _).alloc _).alloc _);have K0:Hid (Ah (((w.alloc (.cells #[.slice none 0 0,.slice none 0 0] 27)).alloc (.cells #[.int .i64 1,.int .i64 3,.int .i64 0,.int .i64 1,.slice none 0 0,.string (ByteArray.mk #[]),.slice none 0 0,.slice none 0 0,.int .i64 0,.slice none 0 0] 40)).alloc (.cells #[.slice none 0 0,.slice (some ⟨w.heap.size+1,0,none⟩) 1 1] 27)) (w.heap.size+1+1) (.cells #[.slice none 0 0,.slice (some ⟨w.heap.size+1,0,none⟩) 1 1] 27)):=hid (by have:=Ah.new ((w.alloc (.cells #[.slice none 0 0,.slice none 0 0] 27)).alloc (.cells #[.int .i64 1,.int .i64 3,.int .i64 0,.int .i64 1,.slice none 0 0,.string (ByteArray.mk #[]),.slice none 0 0,.slice none 0 0,.int .i64 0,.slice none 0 0] 40)) (.cells #[.slice none 0 0,.slice (some ⟨w.heap.size+1,0,none⟩) 1 1] 27);simpa using this);have O0:Hid (Ba (((w.alloc (.cells #[.slice none 0 0,.slice none 0 0] 27)).alloc (.cells #[.int .i64 1,.int .i64 3,.int .i64 0,.int .i64 1,.slice none 0 0,.string (ByteArray.mk #[]),.slice none 0 0,.slice none 0 0,.int .i64 0,.slice none 0 0] 40)).alloc (.cells #[.slice none 0 0,.slice (some ⟨w.heap.size+1,0,none⟩) 1 1] 27)) w.heap.size (.slice (some ⟨w.heap.size+1,0,none⟩) 1 1) [NY]):=hid (by
  have h:=XH (w.alloc (.cells #[.slice none 0 0,.slice none 0 0] 27)) w.heap.size (by simp);have e:(w.alloc (.cells #[.slice none 0 0,.slice none 0 0] 27)).heap.size=w.heap.size+1:=by simp
  rw[e]at h;exact World.ownsRow.alloc h _)
 have B0:Hid (Below w.heap.size w (((w.alloc (.cells #[.slice none 0 0,.slice none 0 0] 27)).alloc (.cells #[.int .i64 1,.int .i64 3,.int .i64 0,.int .i64 1,.slice none 0 0,.string (ByteArray.mk #[]),.slice none 0 0,.slice none 0 0,.int .i64 0,.slice none 0 0] 40)).alloc (.cells #[.slice none 0 0,.slice (some ⟨w.heap.size+1,0,none⟩) 1 1] 27))):=hid ((((Below.refl _ w).alloc (Nat.le_refl _) _).alloc (by simp) _).alloc (by simp;omega) _);have z0:w.heap.size+3<=(((w.alloc (.cells #[.slice none 0 0,.slice none 0 0] 27)).alloc (.cells #[.int .i64 1,.int .i64 3,.int .i64 0,.int .i64 1,.slice none 0 0,.string (ByteArray.mk #[]),.slice none 0 0,.slice none 0 0,.int .i64 0,.slice none 0 0] 40)).alloc (.cells #[.slice none 0 0,.slice (some ⟨w.heap.size+1,0,none⟩) 1 1] 27)).heap.size:=by simp
 go_enter func25,ntmps25
 go_wp2_with fail
 refine C1.out.mono ?_;rintro e w1 ⟨rfl,rfl⟩;go_wp2;generalize (((w.alloc (.cells #[.slice none 0 0,.slice none 0 0] 27)).alloc (.cells #[.int .i64 1,.int .i64 3,.int .i64 0,.int .i64 1,.slice none 0 0,.string (ByteArray.mk #[]),.slice none 0 0,.slice none 0 0,.int .i64 0,.slice none 0 0] 40)).alloc (.cells #[.slice none 0 0,.slice (some ⟨w.heap.size+1,0,none⟩) 1 1] 27))=V at *;go_loopw [5] (fun i wr=>∃(j:Nat) (ta:Option Addr) (ca:Nat),j<=m/\i= .int .i64 ((j:Int)+1)/\Ah wr w.heap.size (.cells #[.slice none 0 0,.slice none 0 0] 27)/\Ah wr (w.heap.size+1+1) (.cells #[.slice ta j ca,.slice (some ⟨w.heap.size+1,0,none⟩) 1 1] 27)/\Ba wr w.heap.size (.slice (some ⟨w.heap.size+1,0,none⟩) 1 1) [NY]/\Dc wr (w.heap.size+3) (.slice ta j ca) (Fp j)/\Below w.heap.size w wr/\w.heap.size+3<=wr.heap.size) (fun i _=>m+1-(intOf i).toNat)
 case atStart=>exact⟨0,none,0,Nat.zero_le _,rfl,R0.out,K0.out,O0.out,Dc.nil _ _,B0.out,z0⟩
 case round=>
  obtain⟨j,ta,ca,hj,rfl,r,k,o,ot,be,zz⟩:=hrel;clear R0 K0 O0 B0 z0 C1;have RR:=hid r;have KK:=hid k;have OO:=hid o;have TT:=hid ot;have BB:=hid be;clear r k o ot be;obtain⟨k0,k1⟩:=KK.out.two;have kf:=KK.out.warm;have wj:IntKind.i64.wrap ((j:Int)+1+1)=(j:Int)+1+1:=by rw[IntKind.wrap_i64];omega
  by_cases hlt:j<m
  ·have i1:(j:Int)+1<=(m:Int):=(by omega);have HLT:=hid hlt;have QL:Hid (Bn (wr.alloc (.cells #[.int .i64 ((j:Int)+1),.int .i64 1,.slice none 0 0,.int .i64 2,.slice none 0 0,.slice none 0 0,.int .i64 0] 68)) (some ⟨wr.heap.size,0,none⟩) 1 (BK [Pp (j+1)])):=hid (Dc.one wr (Pp (j+1)));have QO:=hid (World.ownsRow.alloc TT.out (.cells #[.int .i64 ((j:Int)+1),.int .i64 1,.slice none 0 0,.int .i64 2,.slice none 0 0,.slice none 0 0,.int .i64 0] 68));have lj:=FG j;have KA:=hid (KK.out.alloc (.cells #[.int .i64 ((j:Int)+1),.int .i64 1,.slice none 0 0,.int .i64 2,.slice none 0 0,.slice none 0 0,.int .i64 0] 68));have RA:=hid (RR.out.alloc (.cells #[.int .i64 ((j:Int)+1),.int .i64 1,.slice none 0 0,.int .i64 2,.slice none 0 0,.slice none 0 0,.int .i64 0] 68));have OA:=hid (World.ownsRow.alloc OO.out (.cells #[.int .i64 ((j:Int)+1),.int .i64 1,.slice none 0 0,.int .i64 2,.slice none 0 0,.slice none 0 0,.int .i64 0] 68));have BA:=hid (BB.out.alloc BB.out.size (.cells #[.int .i64 ((j:Int)+1),.int .i64 1,.slice none 0 0,.int .i64 2,.slice none 0 0,.slice none 0 0,.int .i64 0] 68));have za:w.heap.size+3<=(wr.alloc (.cells #[.int .i64 ((j:Int)+1),.int .i64 1,.slice none 0 0,.int .i64 2,.slice none 0 0,.slice none 0 0,.int .i64 0] 68)).heap.size:=(by simp;omega);clear lj;go_wp2_with(at_builtin;refine JC _ rfl _ _ rfl (w.heap.size+3) (.slice ta j ca) (Fp j) rfl QO.out _ _ (Pp (j+1)) rfl QL.out (by rw[FG];omega) za ?_;intro a7 c7 w7 o7 g7;rw[FG]at o7 ⊢;rw[<-SE]at o7;have O7:=hid o7;have G7:=hid g7;clear o7 g7;have nb:∀p,p<w.heap.size+3->some p≠Value.ownBlock (.slice ta j ca):=(fun p hp e=>by have:=(World.ownsRow.lt QO.out p e.symm).1;omega);have K7:=hid (KA.out.grown G7.out (nb _ (by omega)));have R7:=hid (RA.out.grown G7.out (nb _ (by omega)));have OW7:=hid (World.ownsRow.kept OA.out G7.out (Or.inr (nb (w.heap.size+1) (by omega))));have B7:=hid (BA.out.trans (below_grown G7.out (by have:=BB.out.size;omega) (fun p e=>by have:=(World.ownsRow.lt QO.out p e).1;omega)));have z7:w.heap.size+3<=w7.heap.size:=Nat.le_trans za G7.out.size;have k7f:=K7.out.warm;obtain⟨k70,k71⟩:=K7.out.two;clear nb)
   go_roundw;case rel=>
    refine⟨j+1,a7,c7,by have:=HLT.out;omega,by go_num,R7.out.other (by omega) _,K7.out.setAt (i:=0) _,Ba.set OW7.out K7.out (by decide) _,Dc.set O7.out K7.out (by decide) _,B7.out.setCell (by dsimp only;omega) _,by rw[nblk_setCell];exact z7⟩
   case measure=>have:=HLT.out;simp[intOf];omega
  ·obtain rfl:j=m:=by omega
   have i1:¬(j:Int)+1<=(j:Int):=(by omega);obtain⟨r0,r1⟩:=RR.out.two;have rf:=RR.out.warm;have lj:=FG j;have RZ:=hid ((RR.out.setAt (i:=0) (.slice ta j ca)).setAt (i:=1) (.slice (some ⟨w.heap.size+1,0,none⟩) 1 1));go_wp2;refine bodyPost_ret (Q6 _ _ w.heap.size _ _ RZ.out rfl rfl) rfl ⟨ta,some ⟨w.heap.size+1,0,none⟩,ca,1,rfl,?_,?_⟩
   ·have k1:Bz wr w.heap.size (.slice ta j ca) (.slice (some ⟨w.heap.size+1,0,none⟩) 1 1) (Fp j) [NY]:=⟨Dc.base TT.out (by omega),OO.out,fun x hx=>by
     obtain⟨i,_,rfl⟩:=List.mem_map.1 hx;exact⟨Ai,Ai,Gf⟩,fun x hx=>by
     obtain rfl:=List.mem_singleton.1 hx;exact⟨Ai,Ga,Gf,Ai⟩,fun x hx=>by
     obtain⟨i,_,rfl⟩:=List.mem_map.1 hx;exact⟨Nat.le_refl _,Nat.zero_le _⟩,fun x hx=>by
     obtain rfl:=List.mem_singleton.1 hx;exact⟨Nat.le_refl _,Nat.zero_le _⟩⟩
    exact(k1.set RR.out (.inl rfl) _).set (RR.out.setAt (i:=0) _) (.inl rfl) _
   ·exact(BB.out.setCell (Nat.le_refl _) _).setCell (Nat.le_refl _) _
def Qx(x:Int):Prop:= -9223372036854775808<=x/\x<9223372036854775808
theorem Qx.w64(x:Int):Qx (wrap64 x):=by unfold wrap64 Qx;omega
theorem Qx.of{x:Int}(h1: -9223372036854775808<=x)(h2:x<9223372036854775808):Qx x:=⟨h1,h2⟩
theorem XE(w0:World)(rb:Nat)(a:Option Addr)(n cap:Nat)(lo hi:Nat)(w:World)(hl:lo<=hi)(hh:hi<=1099511627776)(h:Rd w0 w rb a n cap):
 Calls prog 63 #[.pointer (some ⟨rb,0,none⟩),.int .i64 lo,.int .i64 hi] w fun e w'=>∃x:Int,e= .returned (.int .i64 x)/\Qx x/\Rd w0 w' rb a n cap/\w.grownBy w' (some rb):=by
 have HR:Hid (Rd w0 w rb a n cap):=h;clear h;have w1:IntKind.i64.wrap ((hi:Int)-lo)=(hi:Int)-lo:=by rw[IntKind.wrap_i64];omega
 have w2:IntKind.i64.wrap ((hi:Int)-lo+1)=(hi:Int)-lo+1:=by rw[IntKind.wrap_i64];omega
 have nl:¬(hi:Int)<(lo:Int):=by omega
 go_enter func63,ntmps63
 go_wp2_with fail
 refine(Ay w0 rb a n cap 8 _ (by omega) HR.out).mono ?_;rintro e u1 ⟨x,rfl,_,x8,R1,g1⟩;have HR1:Hid (Rd w0 u1 rb a n cap):=R1;clear R1;by_cases t0:x=0
 ·subst t0;go_wp2;go_ret;exact⟨_,rfl,.of (by omega) (by omega),HR1.out,g1⟩
 ·by_cases t1:x=1
  ·subst t1;go_wp2;go_ret;exact⟨_,rfl,.of (by omega) (by omega),HR1.out,g1⟩
  ·have t0':((x:Int)==0)=false:=(by simpa using t0);have t1':((x:Int)==1)=false:=(by simp;omega);go_wp2_with fail
   refine(QU w0 rb a n cap _ HR1.out).mono ?_;rintro e u2 ⟨y,rfl,R2,g2⟩;have HR2:Hid (Rd w0 u2 rb a n cap):=R2;clear R2;have m1:IntKind.u64.wrap ((hi:Int)-lo+1)=(hi:Int)-lo+1:=(by rw[IntKind.wrap_u64];omega);have m0:¬((hi:Int)-lo+1)=0:=(by omega);go_wp2;go_ret;exact⟨_,rfl,.w64 _,HR2.out,Cq g1 g2⟩
theorem P8(w0:World)(rb:Nat)(a:Option Addr)(n cap:Nat)(lo hi:Nat)(w:World)(hl:lo<=hi)(hh:hi<=1099511627776)(h:Rd w0 w rb a n cap):
 Calls prog 27 #[.pointer (some ⟨rb,0,none⟩),.int .i64 lo,.int .i64 hi] w fun e w'=>∃x:Int,e= .returned (.int .i64 x)/\Qx x/\Rd w0 w' rb a n cap/\w.grownBy w' (some rb):=by
 have HR:Hid (Rd w0 w rb a n cap):=h;clear h;have w1:IntKind.i64.wrap ((lo:Int)-1)=(lo:Int)-1:=by rw[IntKind.wrap_i64];omega
 have w2:IntKind.i64.wrap ((hi:Int)+1)=(hi:Int)+1:=by rw[IntKind.wrap_i64];omega
 go_enter func27,ntmps27
 go_wp2_with fail
 refine(DF w0 rb a n cap 24 _ (by omega) HR.out).mono ?_;rintro e u1 ⟨t,rfl,R1,g1⟩;have HR1:Hid (Rd w0 u1 rb a n cap):=R1;clear R1;cases t with
 |true=>
  go_wp2_with fail
  have lr:=HR1.out.lt;refine(Ay w0 rb a n cap 4 _ (by omega) (HR1.out.below ((Below.refl _ _).alloc (Nat.le_refl _) _))).mono ?_;rintro e u2 ⟨x,rfl,_,x4,R2,g2⟩;have x4':=x4 (by omega);have HR2:Hid (Rd w0 u2 rb a n cap):=R2;have gN:w.grownBy u2 (some rb):=Cq (Dr g1 (World.grownBy_alloc u1 _ none) (fun j e=>by cases e)) g2;have Bk:Ah u2 u1.heap.size (.cells #[.int .i64 ((lo:Int)-1),.int .i64 ((hi:Int)+1),.int .i64 (-9223372036854775808),.int .i64 9223372036854775807] 2):=(Ah.new u1 _).grown g2 (by simp;omega);unfold Ah at Bk;have c0:u2.cell? ⟨u1.heap.size,0,none⟩=some (.int .i64 ((lo:Int)-1)):=by simp[World.cell?,Bk]
  have c1:u2.cell? ⟨u1.heap.size,1,none⟩=some (.int .i64 ((hi:Int)+1)):=by simp[World.cell?,Bk]
  have c2:u2.cell? ⟨u1.heap.size,2,none⟩=some (.int .i64 (-9223372036854775808)):=by simp[World.cell?,Bk]
  have c3:u2.cell? ⟨u1.heap.size,3,none⟩=some (.int .i64 9223372036854775807):=by simp[World.cell?,Bk]
  clear R2 x4 Bk g2;have hx:x=0∨x=1∨x=2∨x=3:=by omega
  rcases hx with rfl|rfl|rfl|rfl;all_goals
   clear x4';go_wp2;go_ret;exact⟨_,rfl,.of (by omega) (by omega),HR2.out,gN⟩
 |false=>
  go_wp2_with fail
  refine(XE w0 rb a n cap lo hi _ hl hh HR1.out).mono ?_;rintro e u2 ⟨x,rfl,ix,R2,g2⟩;have HR2:Hid (Rd w0 u2 rb a n cap):=R2;clear R2;go_wp2;go_ret;exact⟨_,rfl,ix,HR2.out,Cq g1 g2⟩
end Go.Proofs.YtphddbnadcjhgaaGreatDoor
