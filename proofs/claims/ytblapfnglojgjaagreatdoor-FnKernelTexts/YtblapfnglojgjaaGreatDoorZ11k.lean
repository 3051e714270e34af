import Derived.Shelf.SortM.Plain
import Derived.Shelf.SortM.SortNone
import Derived.Ground.SlgmProg
import Derived.Sort.OwnSortedInts
import Derived.Test.YtblapfnglojgjaaGreatDoorKB10k
set_option maxRecDepth 100000
set_option maxHeartbeats 4000000
namespace Go.Proofs.YtblapfnglojgjaaGreatDoor
open Go.Shelf Go.Proofs.Tryz
def Tryz.sortA_ren:Go.Shelf.Ren:=⟨fun|5=>85|8=>104|7=>103|19=>137|20=>138|10=>128|11=>129|12=>130|13=>131|14=>132|15=>133|16=>134|17=>135|18=>136|30=>146|31=>147|32=>148|33=>149|34=>150|35=>151|40=>158|n=>n,fun|23=>45|25=>2|3=>3|32=>134|22=>45|0=>0|44=>170|46=>132|4=>4|36=>162|35=>161|41=>167|5=>5|9=>9|53=>177|57=>180|63=>183|64=>184|n=>n,fun|n=>n⟩
theorem Tryz.sortA:Go.Proofs.SlLaysM.n5 prog Tryz.sortA_ren:={
 mixed:=by kernel_rfl
 f5:=⟨Tryz.f85.name,by decide,func85.trans (congrArg some (by kernel_rfl))⟩
 f7:=⟨Tryz.f103.name,by decide,func103.trans (congrArg some (by kernel_rfl))⟩
 f8:=func104.trans (congrArg some (by kernel_rfl))
 f10:=⟨Tryz.f128.name,by decide,func128.trans (congrArg some (by kernel_rfl))⟩
 f11:=⟨Tryz.f129.name,by decide,func129.trans (congrArg some (by kernel_rfl))⟩
 f12:=⟨Tryz.f130.name,by decide,func130.trans (congrArg some (by kernel_rfl))⟩
 f13:=⟨Tryz.f131.name,by decide,func131.trans (congrArg some (by kernel_rfl))⟩
 f14:=⟨Tryz.f132.name,by decide,func132.trans (congrArg some (by kernel_rfl))⟩
 f15:=⟨Tryz.f133.name,by decide,func133.trans (congrArg some (by kernel_rfl))⟩
 f16:=⟨Tryz.f134.name,by decide,func134.trans (congrArg some (by kernel_rfl))⟩
 f17:=⟨Tryz.f135.name,by decide,func135.trans (congrArg some (by kernel_rfl))⟩
 f18:=⟨Tryz.f136.name,by decide,func136.trans (congrArg some (by kernel_rfl))⟩
 f19:=func137.trans (congrArg some (by kernel_rfl))
 f20:=func138.trans (congrArg some (by kernel_rfl))
 f30:=⟨Tryz.f146.name,by decide,func146.trans (congrArg some (by kernel_rfl))⟩
 f31:=func147.trans (congrArg some (by kernel_rfl))
 f32:=func148.trans (congrArg some (by kernel_rfl))
 f33:=⟨Tryz.f149.name,by decide,func149.trans (congrArg some (by kernel_rfl))⟩
 f34:=⟨Tryz.f150.name,by decide,func150.trans (congrArg some (by kernel_rfl))⟩
 f35:=⟨Tryz.f151.name,by decide,func151.trans (congrArg some (by kernel_rfl))⟩
 f40:=⟨Tryz.f158.name,by decide,func158.trans (congrArg some (by kernel_rfl))⟩
 t0:=underlying0
 a0:=isAgg0
 z0:=sizeOf0
 v0:=zeroValue0
 t3:=underlying3
 a3:=isAgg3
 z3:=sizeOf3
 v3:=zeroValue3
 t4:=underlying4
 a4:=isAgg4
 z4:=sizeOf4
 v4:=zeroValue4
 t5:=underlying5
 a5:=isAgg5
 z5:=sizeOf5
 v5:=zeroValue5
 t9:=underlying9
 a9:=isAgg9
 z9:=sizeOf9
 v9:=zeroValue9
 t22:=underlying45
 a22:=isAgg45
 z22:=sizeOf45
 v22:=zeroValue45
 t23:=underlying45
 a23:=isAgg45
 z23:=sizeOf45
 v23:=zeroValue45
 t25:=underlying2
 a25:=isAgg2
 z25:=sizeOf2
 v25:=zeroValue2
 t32:=underlying134
 a32:=isAgg134
 z32:=sizeOf134
 v32:=zeroValue134
 t35:=underlying161
 a35:=isAgg161
 z35:=sizeOf161
 v35:=zeroValue161
 t36:=underlying162
 a36:=isAgg162
 z36:=sizeOf162
 v36:=zeroValue162
 t41:=underlying167
 a41:=isAgg167
 z41:=sizeOf167
 v41:=zeroValue167
 t44:=underlying170
 a44:=isAgg170
 z44:=sizeOf170
 v44:=zeroValue170
 t46:=underlying132
 a46:=isAgg132
 z46:=sizeOf132
 v46:=zeroValue132
 t53:=underlying177
 a53:=isAgg177
 z53:=sizeOf177
 v53:=zeroValue177
 t57:=underlying180
 a57:=isAgg180
 z57:=sizeOf180
 v57:=zeroValue180
 t63:=underlying183
 a63:=isAgg183
 z63:=sizeOf183
 v63:=zeroValue183
 t64:=underlying184
 a64:=isAgg184
 z64:=sizeOf184
 v64:=zeroValue184}
open Go Go.RowKit Go.Deep Go.Maps Go.Sort
variable {w:World}{v:Value}{l:List Int}
def FL(l:List Int):List Int:=l.mergeSort (fun x y=>decide (x<=y))
theorem Jg(l:List Int):(FL l).length=l.length:=by simp[FL]
theorem ZP(B:Nat)(v:Value)(l:List Int)(w:World)(h:AQ w B v l)(hl:l.length<=100000):
 Calls prog 85 #[v] w fun e w'=>e= .returned (.tuple #[])/\AQ w' B v (FL l)/\w.grownBy w' v.ownBlock:=by
 rcases h.2 with⟨rfl,hn⟩|⟨g,cap,cur,rfl,hB,hb,h1,h2,h3,h4⟩
 ·have e0:l=[]:=List.eq_nil_of_length_eq_zero hn;subst e0;refine(AnyM.slices_Sort_int_none Tryz.sortA none 0 w).mono ?_;rintro e w' ⟨rfl,rfl⟩;have e0:FL []=[]:=by simp[FL]
  rw[e0];exact⟨rfl,h,⟨rfl,rfl,rfl,Nat.le_refl _,fun _ _ _=>rfl⟩⟩
 ·have hlt:g<w.heap.size:=(Array.getElem?_eq_some_iff.1 hb).1;refine(AnyM.slices_Sort_int Tryz.sortA g 0 cap l w (holds_of_blockI hb (by simpa using h4)) hlt (by omega)).mono ?_;rintro e w' ⟨rfl,n,os,rfl⟩;refine⟨rfl,?_,grownBy_sortedI _⟩;have:=ownsRow_sortedI (n:=n) (os:=os) (ts:=FL l) (Jg l) hB hb h1 h2 h3;unfold AQ;rw[Jg];exact this
theorem ME.sorted{w0 w':World}{c:Nat}{l':List Int}(h:ME w0 c w v l)(ho:AQ w' (w0.heap.size+1+1+1) v l')(hg:w.grownBy w' v.ownBlock):ME w0 c w' v l':=by
 have hne:∀k,k<w0.heap.size+1+1+1->some k≠v.ownBlock:=fun k hk e=>by have:=(World.ownsRow.lt h.o k e.symm).1;omega
 exact⟨h.b.trans (below_grown hg h.b.size (fun j hj=>by have:=(World.ownsRow.lt h.o j hj).1;omega)),h.q.grown hg (hne _ (by omega)),h.p.grown hg (hne _ (by omega)),h.r.grown hg (hne _ (by omega)),ho⟩
theorem AQ.low{B B':Nat}(h:AQ w B v l)(hB:B'<=B):AQ w B' v l:=by
 refine⟨h.1,?_⟩;rcases h.2 with hn|⟨g,cap,cur,hv,hb,rest⟩
 ·exact .inl hn
 ·exact .inr ⟨g,cap,cur,hv,by omega,rest⟩
theorem WR(w:World)(B c n:Nat)(ids ups:Nat->Int)(ob off:Nat)(nb:Nat->Nat)(kv:Nat->Value)(hN:Gl w B c n ids ob off nb kv (BI ids ups n))(hr:Dt ids n)(h0:∀j,j<n->ids j≠ups 0)
 (hw:∀i,i<n->(Lit.int .i64 (ids i)).wf=true)(hn:n<=271)(i:Nat)(hi:i<n)(hc:Iq ids ups n i):
 Calls prog 55 #[.map (some c),.int .i64 (ids i)] w fun e w'=>∃v,e= .returned v/\AQ w' w v (FL ((Gd ids ups n n i).map ids))/\Below w w w':=by
 have hst:=fun(W:World) (a:Addr) (x y:Array Value) (m:Mode)=>run_store prog W a (.func (.func 84) x y) m rfl;have n1:Nw (w.alloc (.cells #[.map (some c)] 98)):=⟨⟩;have b1:Below w w n1:=CY w _;have LK:=(hN.map.below b1).look (hw i hi);rw[Dx hr hi]at LK;simp only[Option.map_some]at LK;have hlen:(Gd ids ups n n i).length<=n:=Hj (IN hr h0 hi hc) (fun x hx=>((Ef hr h0 hi).1 hx).1);have n2:No (.cells #[OR w.heap.size] 127):=⟨⟩;have n3:No (.cells #[.slice none 0 0] 45):=⟨⟩;have W0:ME w c (((n1:World).alloc n3).alloc n2) (.slice none 0 0) []:=by
  refine⟨?_,?_,?_,?_,AQ.nil _ _⟩
  ·exact(b1.alloc b1.size _).alloc (b1.alloc b1.size _).size _
  ·exact((Ai.new w _).alloc _).alloc _
  ·have:=(Ai.new n1 n3).alloc n2;simpa using this
  ·have:=Ai.new ((n1:World).alloc n3) n2;simpa using this
 have C1:=hid (Yw w B c n ids ups ob off nb kv hN hr h0 hw hn n i [] (.slice none 0 0) _ hi (fun j m hj e=>Pm hc hj e) (by simp;omega) W0);unfold OR at C1;simp only[List.nil_append]at C1;clear W0 hN h0 hw hr;go_enter func55,ntmps55
 go_wp2_with fail
 refine C1.out.mono ?_;rintro e w2 ⟨v2,rfl,h2⟩;have H2:=hid h2;have x1:_=some v2:=h2.p.c0 0 rfl;have C2:=hid (ZP _ v2 _ w2 h2.o (by rw[List.length_map];omega));clear h2 C1 LK;go_wp2_with fail
 refine C2.out.mono ?_;rintro e w3 ⟨rfl,o3,g3⟩;have H3:=hid (H2.out.sorted o3 g3);have x3:_=some v2:=H3.out.p.c0 0 rfl;clear o3 g3 x1 C2 H2;go_wp2;go_ret;exact⟨v2,rfl,H3.out.o.low (by omega),H3.out.b⟩
theorem Wl{n:Nat}{O:Nat->Ae}(h:BU n O=true):((((FL ((Gd (fun i=>(O i).id) (fun i=>(O i).up) n n 0).map (fun i=>(O i).id))).length:Nat):Int)==(n:Int))=Fc (fun i=>(O i).id) (fun i=>(O i).up) n:=by
 rw[Jg,List.length_map];obtain⟨h1,_⟩:=BJ h;have hp:=YU (Cq h) (ups:=fun i=>(O i).up) (fun j hj=>by have:=Eo h j hj;have:=(Cu h).2.2;omega) (by omega);rw[Bool.eq_iff_iff,<-hp];simp only[beq_iff_eq];omega
theorem XO{n:Nat}{O:Nat->Ae}(h:BU n O=true):∃L:Nat,(FL ((Gd (fun i=>(O i).id) (fun i=>(O i).up) n n 0).map (fun i=>(O i).id))).length=L/\L<=271/\((L:Int)==(n:Int))=Fc (fun i=>(O i).id) (fun i=>(O i).up) n:=by
 refine⟨_,rfl,?_,Wl h⟩;rw[Jg,List.length_map];obtain⟨h1,h2,_⟩:=BJ h;have:=Hj (IN (Cq h) (ups:=fun i=>(O i).up) (fun j hj=>by have:=Eo h j hj;have:=(Cu h).2.2;omega) (f:=n) (i:=0) (by omega) Gt) (fun x hx=>((Ef (Cq h) (ups:=fun i=>(O i).up) (fun j hj=>by have:=Eo h j hj;have:=(Cu h).2.2;omega) (by omega)).1 hx).1);omega
theorem Uo(a:Option Addr)(n cap:Nat)(O:Nat->Ae)(w:World)(hcap:n<=cap)(hO:IF w a n O)(h2:BU n O=true)(hw:∀i,i<n->(Lit.int .i64 (O i).id).wf=true/\(Lit.int .i64 (O i).up).wf=true):
 Calls prog 26 #[.slice a n cap] w fun e w'=>e= .returned (.bool (IK n O&&Fc (fun i=>(O i).id) (fun i=>(O i).up) n))/\Below w w w':=by
 obtain⟨on1,on2,_,_⟩:=BJ h2;have HO:=hid hO;obtain⟨ob,off,rfl,_,_⟩:=hO (by omega);have HW:=hid hw;have H2:=hid h2;obtain⟨L,eL,hL,rL⟩:=XO h2;have EL:=hid eL;have RL:=hid rL;clear eL rL;clear hO h2 hw;have C1:=hid (Tw ob off n cap O w on2 HO (Cq H2) HW);go_enter func26,ntmps26
 go_wp2_with fail
 refine C1.out.mono ?_;rintro e w1 ⟨c,nb,kv,rfl,hN,b1⟩;have HN:=hid hN;clear hN C1;have END:Hid (∀wr:World,Below w1 w1 wr->Calls prog 55 #[.map (some c),.int .i64 1] wr fun e w'=>∃a2 k2,e= .returned (.slice a2 L k2)/\Below wr wr w'):=hid (fun wr hb=>by
  have:=WR wr w c n (fun i=>(O i).id) (fun i=>(O i).up) ob off nb kv (HN.out.below hb) (Cq H2) (fun j hj=>by have:=Eo H2 j hj;have:=(Cu H2).2.2;omega) (fun i hi=>(HW i hi).1) on2 0 (by omega) Gt;rw[(Cu H2.out).1]at this;refine this.mono ?_;rintro e w' ⟨v,rfl,o,b⟩;obtain⟨a2,k2,rfl⟩:=Cp o;rw[EL.out];exact⟨a2,k2,rfl,b⟩)
 have c1:(n:Int)<=(cap:Int):=by omega
 have c2:(1:Int)<=(n:Int):=by omega
 by_cases hok:cap=1
 ·obtain rfl:n=1:=by omega
  subst hok;go_wp2;go_loopw [12] (fun i wr=>i= .int .i64 0/\Below w1 w1 wr) (fun i _=>0)
  case atStart=>exact⟨rfl,Below.refl _ _⟩
  case round=>
   obtain⟨rfl,hB⟩:=hrel;go_wp2_with fail
   refine(END wr hB).mono ?_;rintro e w2 ⟨a2,k2,rfl,b2⟩;go_wp2;go_ret;refine⟨Ag ?_,Ac b1 (Ac hB b2)⟩;rw[<-RL.out];simp[IK]
 ·go_wp2;go_loopw [12] (fun i wr=>∃q:Nat,q<=n-1/\i= .int .i64 q/\Hid (∀p,p<q->FX n O (O (p+1)).up=true)/\Below w1 w1 wr) (fun i _=>n-1-(intOf i).toNat)
  case atStart=>exact⟨0,Nat.zero_le _,rfl,hid (fun p hp=>by omega),Below.refl _ _⟩
  case round=>
   obtain⟨q,hq,rfl,HA,hB⟩:=hrel;by_cases hlt2:q<n-1
   ·obtain⟨_,_,ea,hlt0,hcc⟩:=(HO.out.below b1).below hB (by omega);cases ea;obtain⟨⟨q0,q1,q2,q3,q4,q5,q6,q7,q8,q9⟩,ht⟩:=hcc (q+1) (by omega);have ei:off+(q+1)*10=off+10+q*10:=(by omega);rw[ei]at q0 q1 q2 q3 q4 q5 q6 q7 q8 q9;have i2:(q:Int)<((n-1:Nat):Int):=(by omega);simp only[AH.val,AU.val,AX.val]at q4 q6 q7 q9;have bC:Below wr wr (wr.alloc (.cells (O (q+1)) 51)):=CY wr _;have BC:=Ac hB bC;have N1:=hid (HN.out.below BC);have LK:=N1.out.map.look (x:=(O (q+1)).up) (HW (q+1) (by omega)).2;cases hf:Bv (fun i=>(O i).id) n (O (q+1)).up with
    |none=>
     have BO:Hid (FX n O (O (q+1)).up=false):=hid (by simp[FX,hf]);rw[hf]at LK;simp only[Option.map_none]at LK;clear hcc ht ei hf;go_wp2;go_ret;exact⟨Ag (by rw[IK,HJ hlt2 BO.out];rfl),Ac b1 BC⟩
    |some u=>
     obtain⟨hu,_⟩:=AZ hf;have BO:Hid (FX n O (O (q+1)).up=((O u).kind==3)):=hid (by simp[FX,hf]);rw[hf]at LK;simp only[Option.map_some]at LK;have k1:=(hcc u hu).1.c1;have k2:=(bC.cell (p:=⟨ob,off+u*10+1,none⟩) hlt0).trans k1;have n1:_=some (Value.pointer (some ⟨ob,off+u*10,none⟩)):=(N1.out.blk u hu).c0 0 rfl;clear hcc ht ei hf k1;cases c3:((O u).kind==3)with
     |false=>
      rw[c3]at BO;have c3':¬(O u).kind=3:=(by simpa using c3);go_wp2;go_ret;exact⟨Ag (by rw[IK,HJ hlt2 BO.out];rfl),Ac b1 BC⟩
     |true=>
      rw[c3]at BO;have c3':(O u).kind=3:=(by simpa using c3);rw[c3']at k2;clear c3;go_wp2;refine⟨⟨q+1,by omega,by go_num,hid (fun p hp=>?_),BC⟩,by simp[intOf];omega⟩;by_cases e:p=q
      ·subst e;exact BO.out
      ·exact HA.out p (by omega)
   ·have e:q=n-1:=(by omega);subst e;go_wp2_with fail
    refine(END wr hB).mono ?_;rintro e w2 ⟨a2,k2,rfl,b2⟩;go_wp2;go_ret;refine⟨Ag ?_,Ac b1 (Ac hB b2)⟩;rw[IK,Ei HA.out,Bool.true_and,<-RL.out]
theorem JZ(k:AJ)(w:World)(hk:k.at w)(hcap:k.on<=k.ok)(hw:∀i,i<k.on->(Lit.int .i64 (k.O i).id).wf=true/\(Lit.int .i64 (k.O i).up).wf=true):
 Calls prog 9 #[k.val] w fun e w'=>e= .returned (.bool (AW k))/\Below w w w':=by
 have n1:No (.cells #[.slice k.ta k.tn k.tk,.slice k.oa k.on k.ok] 27):=⟨⟩;have hb0:=(Below.refl _ w).alloc nr n1;have A0:=Ai.new w n1;have T0:=hid (hk.below hb0);have HW:=hid hw;have HC:=hid hcap;unfold AJ.val;obtain⟨x0,x1⟩:=A0.two;clear hk hw hcap;go_enter func9,ntmps9
 go_wp2_with fail
 refine(Qj _ _ _ k.T _ T0.out.1 T0.out.2.2.1).mono ?_;rintro e w1 ⟨rfl,hb1⟩;have A1:=A0.below hb1;have T1:=hid (T0.out.below hb1);have B1:=Ac hb0 hb1;clear x0 x1 A0 T0 hb0 hb1;obtain⟨x0,x1⟩:=A1.two;cases t1:Br k.tn k.T with
 |false=>
  go_wp2;go_ret;exact⟨Ag (Hp t1).symm,B1⟩
 |true=>
 go_wp2_with fail
 refine(Qc _ _ _ k.O _ T1.out.2.1 T1.out.2.2.2).mono ?_;rintro e w2 ⟨rfl,hb2⟩;have A2:=A1.below hb2;have T2:=hid (T1.out.below hb2);have B2:=Ac B1 hb2;clear x0 x1 A1 T1 B1 hb2;obtain⟨x0,x1⟩:=A2.two;cases t2:BU k.on k.O with
 |false=>
  go_wp2;go_ret;exact⟨Ag (by simp[AW,t2]),B2⟩
 |true=>
 have C3:=hid (Qr k w2 T2 HC t1 t2 (fun i hi=>(HW i hi).1));unfold AJ.val at C3;go_wp2_with fail
 refine C3.out.mono ?_;rintro e w3 ⟨rfl,hb3⟩;have A3:=A2.below hb3;have T3:=hid (T2.out.below hb3);have B3:=Ac B2 hb3;clear x0 x1 A2 T2 B2 hb3 C3;obtain⟨x0,x1⟩:=A3.two;cases t3:Ha k.tn k.T k.on k.O with
 |false=>
  go_wp2;go_ret;exact⟨Ag (by simp[AW,t3]),B3⟩
 |true=>
 have C4:=hid (Uo k.oa k.on k.ok k.O w3 HC T3.out.2.2.2 t2 HW);have OK:Hid (AW k=(IK k.on k.O&&Fc (fun i=>(k.O i).id) (fun i=>(k.O i).up) k.on)):=hid (by simp[AW,t1,t2,t3]);clear t1 t2 t3;go_wp2_with fail
 refine C4.out.mono ?_;rintro e w4 ⟨rfl,hb4⟩;have B4:=Ac B3 hb4;rw[<-OK.out];clear x0 x1 A3 T3 B3 hb4 C4;go_wp2;go_ret;exact⟨rfl,B4⟩
variable {x:Int}{q:Nat}
def Nn(O:Nat->Ae)(x:Int)(q:Nat):List Int:=((List.range q).filter (fun j=>(O j).up==x)).map (fun i=>(O i).id)
theorem aZ{O:Nat->Ae}(h:(O q).up=x):Nn O x (q+1)=Nn O x q++[(O q).id]:=by
 simp[Nn,List.range_succ,h]
theorem cv{O:Nat->Ae}(h:(O q).up≠x):Nn O x (q+1)=Nn O x q:=by
 simp[Nn,List.range_succ,h]
theorem WK(O:Nat->Ae)(x:Int)(q:Nat):(Nn O x q).length<=q:=by
 unfold Nn;rw[List.length_map];exact Nat.le_trans (List.length_filter_le _ _) (by simp)
theorem YT{O:Nat->Ae}{n u:Nat}:Nn O (O u).id n=BI (fun i=>(O i).id) (fun i=>(O i).up) n u:=rfl
theorem OV(k:AJ)(x:Int)(w:World)(hk:k.at w)(hn:k.on<=271):
 Calls prog 117 #[k.val,.int .i64 x] w fun e w'=>∃v,e= .returned v/\AQ w' w v (Nn k.O x k.on)/\Below w w w':=by
 have n1:No (.cells #[.slice k.ta k.tn k.tk,.slice k.oa k.on k.ok] 27):=⟨⟩;have hb0:=(Below.refl _ w).alloc nr n1;have A0:=Ai.new w n1;have bm:=hb0.alloc hb0.size (.cells #[] 2);have A1:=A0.alloc (.cells #[] 2);have O1:=AQ.made (w.alloc n1) (w.heap.size+1) (by simp);have HT:=hid hk;unfold AJ.val;clear hk;go_enter func117,ntmps117
 go_wp2;generalize hW:((w.alloc n1).alloc (.cells #[] 2))=W at *;have O2:AQ W (w.heap.size+1) (.slice (some ⟨w.heap.size+1,0,none⟩) 0 0) []:=by simpa using O1
 clear hW hb0 A0 O1;go_loopw [5,6] (fun v i wr=>∃q:Nat,q<=k.on/\i= .int .i64 q/\Hid (AQ wr (w.heap.size+1) v (Nn k.O x q))/\Ai wr w n1/\Below w w wr) (fun _ i _=>k.on-(intOf i).toNat)
 case atStart=>exact⟨0,Nat.zero_le _,rfl,hid O2,A1,bm⟩
 case round=>
  clear O2 A1 bm;obtain⟨q,hq,rfl,HO,A,hB⟩:=hrel;obtain⟨x0,x1⟩:=A.two;by_cases hlt:q<k.on
  ·obtain⟨b,off,ea,hlt0,hcc⟩:=HT.out.2.2.2.below hB (by omega);have q0:=(hcc q hlt).1.c0;have q2:=(hcc q hlt).1.c2;rw[ea]at x1;have i1:(q:Int)<(k.on:Int):=(by omega);clear hcc ea;by_cases e:(k.O q).up=x
   ·have e':((k.O q).up==x)=true:=(by simpa using e);have EQ:=hid (aZ e);have hl:=WK k.O x q;have n2:No (.cells #[.int .i64 (k.O q).id] 2):=⟨⟩;have B1:Below w w (wr.alloc n2):=hB.alloc hB.size _;have AA:=A.alloc n2;have OA:=hid (AQ.alloc HO n2);have L1:=hid (D9.one (w:=wr) (k.O q).id);have s1:w.heap.size+1<=(wr.alloc n2).heap.size:=(by have:=A.lt;simp;omega);have FIN:Hid (∀w3:World,(wr.alloc n2).grownBy w3 u5.ownBlock->Ai w3 w (.cells #[.slice k.ta k.tn k.tk,.slice k.oa k.on k.ok] 27)/\Below w w w3):=hid (fun w3 g3=>⟨AA.grown g3 (fun e=>by have:=(World.ownsRow.lt OA _ e.symm).1;omega),B1.trans (below_grown g3 B1.size (fun j hj=>by have:=(World.ownsRow.lt OA j hj).1;omega))⟩);clear e HO;go_wp2_with(refine DX _ rfl _ _ rfl (w.heap.size+1) u5 (Nn k.O x q) rfl OA _ 1 1 [(k.O q).id] rfl rfl L1 (by omega) s1 ?_;intro a3 c3 w3 o3 g3 v3)
    rw[<-EQ.out]at o3;obtain⟨f1,f2⟩:=FIN.out w3 g3;exact⟨⟨q+1,by omega,by go_num,hid (by first|exact o3|simpa[EQ.out]using o3),f1,f2⟩,by simp[intOf];omega⟩
   ·have e':((k.O q).up==x)=false:=(by simpa using e);have EQ:=hid (cv e);clear e;go_wp2;exact⟨⟨q+1,by omega,by go_num,hid (by rw[EQ.out];exact HO.out),A,hB⟩,by simp[intOf];omega⟩
  ·have i1:¬(q:Int)<(k.on:Int):=(by omega);have e:q=k.on:=(by omega);have HO2:Hid (AQ wr (w.heap.size+1) u5 (Nn k.O x k.on)):=hid (by rw[<-e];exact HO.out);clear HO e;go_wp2;go_ret;exact⟨u5,rfl,HO2.out.low (by omega),hB⟩
theorem CG{k:AJ}(h:AW k=true):Br k.tn k.T=true/\BU k.on k.O=true/\Ha k.tn k.T k.on k.O=true/\IK k.on k.O=true/\Fc (fun i=>(k.O i).id) (fun i=>(k.O i).up) k.on=true:=by
 simp only[AW,Bool.and_eq_true]at h;exact⟨h.1.1.1.1,h.1.1.1.2,h.1.1.2,h.1.2,h.2⟩

theorem LU(L:List Int)(x:Int):(DW L x).length<=L.length+1:=by
 unfold DW;split
 ·omega
 ·simp;omega
theorem ZC(L:List Int)(x:Int):0<(DW L x).length:=by
 unfold DW;split
 ·rename_i h;have:=(List.getElem?_eq_some_iff.1 h).1;omega
 ·simp;omega
theorem Ox{L:List Int}{x y:Int}(h:y∈DW L x):y∈L∨y=x:=by
 unfold DW at h;split at h
 ·exact .inl h
 ·rw[List.mem_append,List.mem_append,List.mem_singleton]at h;rcases h with(h|h)|h
  ·exact .inl (List.mem_of_mem_take h)
  ·exact .inr h
  ·exact .inl (List.mem_of_mem_drop h)
theorem Mv{L:List Int}{x:Int}(h:L.Pairwise (· <·)):(DW L x).Pairwise (· <·):=by
 unfold DW;split
 ·exact h
 ·rename_i hx;have hlo:∀y∈L.take (putAt L x),y<x:=by
   intro y hy;obtain⟨j,hj,rfl⟩:=List.getElem_of_mem hy;have hj':j<putAt L x:=(by simp at hj;omega);have:=List.not_of_lt_findIdx hj';simp at this;simpa using this
  have hhi:∀y∈L.drop (putAt L x),x<y:=by
   intro y hy;obtain⟨j,hj,rfl⟩:=List.getElem_of_mem hy;rw[List.getElem_drop];have hlen:putAt L x<L.length:=(by simp at hj;omega);have h0:¬L[putAt L x]<x:=by
    have:=List.findIdx_getElem (xs:=L) (p:=fun y=> !decide (y<x)) (w:=hlen);unfold putAt;simpa using this
   have h1:L[putAt L x]≠x:=fun e=>hx (by rw[List.getElem?_eq_getElem hlen,e]);by_cases ej:j=0
   ·subst ej;simp;omega
   ·have:=List.pairwise_iff_getElem.1 h (putAt L x) (putAt L x+j) hlen (by simp at hj;omega) (by omega);omega
  rw[List.append_assoc,List.pairwise_append];refine⟨h.sublist (List.take_sublist _ _),?_,?_⟩
  ·rw[List.singleton_append,List.pairwise_cons];exact⟨hhi,h.sublist (List.drop_sublist _ _)⟩
  ·intro y hy z hz;have h1:=hlo y hy;rw[List.singleton_append,List.mem_cons]at hz;rcases hz with rfl|hz
   ·exact h1
   ·have:=hhi z hz;omega
theorem aC{L:List Int}{x y:Int}:y∈DW L x↔y∈L∨y=x:=by
 refine⟨Ox,fun h=>?_⟩;unfold DW;split
 ·rename_i e;rcases h with h|rfl
  ·exact h
  ·exact List.mem_of_getElem? e
 ·rcases h with h|rfl
  ·rw[<-List.take_append_drop (putAt L x) L]at h;rcases List.mem_append.1 h with h|h
   ·exact List.mem_append_left _ (List.mem_append_left _ h)
   ·exact List.mem_append_right _ h
  ·simp
theorem TH:∀{l m:List Int},l.Pairwise (· <·)->m.Pairwise (· <·)->(∀x,x∈l↔x∈m)->l=m
 |[],[],_,_,_=>rfl
 |[],b::m,_,_,h=>by have:=(h b).2 List.mem_cons_self;cases this
 |a::l,[],_,_,h=>by have:=(h a).1 List.mem_cons_self;cases this
 |a::l,b::m,h1,h2,h=>by
  obtain⟨a1,a2⟩:=List.pairwise_cons.1 h1;obtain⟨b1,b2⟩:=List.pairwise_cons.1 h2;have e:a=b:=by
   rcases List.mem_cons.1 ((h a).1 List.mem_cons_self)with e|e
   ·exact e
   ·rcases List.mem_cons.1 ((h b).2 List.mem_cons_self)with e'|e'
    ·exact e'.symm
    ·have:=a1 b e';have:=b1 a e;omega
  subst e;rw[TH a2 b2 fun x=>?_];constructor
  ·intro hx;rcases List.mem_cons.1 ((h x).1 (List.mem_cons_of_mem _ hx))with e|e
   ·subst e;have:=a1 x hx;omega
   ·exact e
  ·intro hx;rcases List.mem_cons.1 ((h x).2 (List.mem_cons_of_mem _ hx))with e|e
   ·subst e;have:=b1 x hx;omega
   ·exact e
theorem Rv{l:List Int}{x:Int}:x∈FL l↔x∈l:=(List.mergeSort_perm l _).mem_iff
theorem UV{l:List Int}(h:l.Nodup):(FL l).Pairwise (· <·):=by
 have h1:(FL l).Pairwise (fun a b=>a<=b):=by
  have:=List.pairwise_mergeSort (le:=fun(x y:Int)=>decide (x<=y)) (fun a b c h1 h2=>by simp at *;omega) (fun a b=>by simp;omega) l;exact this.imp (fun h=>by simpa using h)
 have h2:(FL l).Nodup:=(List.mergeSort_perm l _).nodup_iff.2 h;exact(h1.and h2).imp (fun{a b} ⟨h3,h4⟩=>by omega)
def DT(L:List Int):List Int:=L.foldl DW []
theorem Tv(L:List Int):(DT L).Pairwise (· <·):=by
 unfold DT;have:∀(M:List Int),M.Pairwise (· <·)->(L.foldl DW M).Pairwise (· <·):=by
  induction L with
  |nil=>intro M h;exact h
  |cons a L ih=>intro M h;exact ih _ (Mv h)
 exact this [] List.Pairwise.nil
theorem VM(L:List Int)(x:Int):x∈DT L↔x∈L:=by
 unfold DT;have:∀(M:List Int),x∈L.foldl DW M↔x∈M∨x∈L:=by
  induction L with
  |nil=>intro M;simp
  |cons a L ih=>intro M;rw[List.foldl_cons,ih,aC,List.mem_cons];exact or_assoc
 rw[this []];simp
theorem U3(L:List Int):(DT L).length<=L.length:=by
 unfold DT;have:∀(M:List Int),(L.foldl DW M).length<=M.length+L.length:=by
  induction L with
  |nil=>intro M;simp
  |cons a L ih=>intro M;rw[List.foldl_cons];have:=ih (DW M a);have:=LU M a;simp only[List.length_cons];omega
 simpa using this []
section
variable {ids ups:Nat->Int}{n u:Nat}
structure Wt(ids ups:Nat->Int)(n u t:Nat)(Q:List Nat):Prop where
 nodup:Q.Nodup
 head:Q[0]? =some u
 mem:∀j∈Q,j<n/\∃m,Bn ids ups n m j=some u
 closed:∀s a,s<t->Q[s]? =some a->∀c∈Dv ids ups n a,c∈Q
 origin:∀s c,0<s->Q[s]? =some c->∃r a,r<t/\Q[r]? =some a/\Ky ids ups n c=some a
theorem Wt.start(hu:u<n):Wt ids ups n u 0 [u]:=by
 refine⟨by simp,rfl,fun j hj=>?_,fun s a hs=>by omega,fun s c hs e=>?_⟩
 ·simp at hj;subst hj;exact⟨hu,0,rfl⟩
 ·cases s with
  |zero=>omega
  |succ s=>simp at e
theorem Wt.step(hr:Dt ids n)(h0:∀j,j<n->ids j≠ups 0)(hc:Iq ids ups n u){t a:Nat}{Q:List Nat}(h:Wt ids ups n u t Q)(ht:Q[t]? =some a):Wt ids ups n u (t+1) (Q++Dv ids ups n a):=by
 have hta:t<Q.length:=(List.getElem?_eq_some_iff.1 ht).1;obtain⟨han,ma,hma⟩:=h.mem a (List.mem_of_getElem? ht);have kid:∀c,c∈Dv ids ups n a->c<n/\Ky ids ups n c=some a:=fun c hc=>(Ge hr h0 han).1 hc;have old:∀{s x},Q[s]? =some x->(Q++Dv ids ups n a)[s]? =some x:=fun{s x} e=>by
  rw[List.getElem?_append_left (List.getElem?_eq_some_iff.1 e).1];exact e
 refine⟨?_,old h.head,fun j hj=>?_,fun s b hs e c hcb=>?_,fun s c hs e=>?_⟩
 ·rw[List.nodup_append];refine⟨h.nodup,List.Nodup.sublist List.filter_sublist List.nodup_range,fun x hx y hy exy=>?_⟩;subst exy;obtain⟨_,px⟩:=kid x hy;obtain⟨s,hs,es⟩:=List.getElem_of_mem hx;by_cases s0:s=0
  ·subst s0;have:x=u:=(by have:=h.head;rw[List.getElem?_eq_getElem hs,es]at this;simpa using this);subst this;exact hc ma (by simp only[Bn,px,Option.bind_some];exact hma)
  ·obtain⟨r,b,hrt,hb,pb⟩:=h.origin s x (by omega) (by rw[List.getElem?_eq_getElem hs,es]);rw[px]at pb;have eab:a=b:=(by simpa using pb);subst eab;have hrl:=(List.getElem?_eq_some_iff.1 hb).1;have e1:=(List.getElem?_eq_some_iff.1 hb).2;have e2:=(List.getElem?_eq_some_iff.1 ht).2;have:=(List.getElem_inj (h₀:=hrl) (h₁:=hta) h.nodup).1 (e1.trans e2.symm);omega
 ·rcases List.mem_append.1 hj with hj|hj
  ·exact h.mem j hj
  ·obtain⟨h1,h2⟩:=kid j hj;exact⟨h1,ma+1,by simp only[Bn,h2,Option.bind_some];exact hma⟩
 ·by_cases est:s=t
  ·subst est;rw[old ht]at e;have:a=b:=(by simpa using e);subst this;exact List.mem_append_right _ hcb
  ·have hsl:s<Q.length:=(by omega);rw[List.getElem?_append_left hsl]at e;exact List.mem_append_left _ (h.closed s b (by omega) e c hcb)
 ·by_cases hsl:s<Q.length
  ·rw[List.getElem?_append_left hsl]at e;obtain⟨r,b,h1,h2,h3⟩:=h.origin s c hs e;exact⟨r,b,by omega,old h2,h3⟩
  ·rw[List.getElem?_append_right (by omega)]at e;exact⟨t,a,by omega,old ht,(kid c (List.mem_of_getElem? e)).2⟩
theorem Wt.len{t:Nat}{Q:List Nat}(h:Wt ids ups n u t Q):Q.length<=n:=Hj h.nodup (fun x hx=>(h.mem x hx).1)
theorem Wt.all(hr:Dt ids n)(h0:∀j,j<n->ids j≠ups 0){Q:List Nat}(h:Wt ids ups n u Q.length Q)(j:Nat):j∈Q↔j<n/\∃m,Bn ids ups n m j=some u:=by
 refine⟨h.mem j,?_⟩;rintro⟨hj,m,e⟩;induction m generalizing j with
 |zero=>
  simp only[Bn,Option.some.injEq]at e;subst e;exact List.mem_of_getElem? h.head
 |succ m ih=>
  simp only[Bn]at e;cases ep:Ky ids ups n j with
  |none=>simp[ep]at e
  |some p=>
   simp only[ep,Option.bind_some]at e;have hp:=ih p (Pz ep) e;obtain⟨s,hs,es⟩:=List.getElem_of_mem hp;exact h.closed s p hs (by rw[List.getElem?_eq_getElem hs,es]) j ((Ge hr h0 (Pz ep)).2 ⟨hj,ep⟩)
theorem am(hr:Dt ids n)(h0:∀j,j<n->ids j≠ups 0)(hu:u<n)(hc:Iq ids ups n u){Q:List Nat}(h:Wt ids ups n u Q.length Q):DT (Q.map ids)=FL ((Gd ids ups n n u).map ids):=by
 have inj:∀{l:List Nat},l.Nodup->(∀x∈l,x<n)->(l.map ids).Nodup:=fun{l} hl hx=>by
  rw[List.Nodup,List.pairwise_map];refine List.Pairwise.imp_of_mem ?_ hl;intro a b ha hb hab e;exact hab (hr.inj (hx a ha) (hx b hb) e)
 refine TH (Tv _) (UV (inj (IN hr h0 hu hc) (fun x hx=>((Ef hr h0 hu).1 hx).1))) fun x=>?_;rw[VM,Rv,List.mem_map,List.mem_map];constructor
 ·rintro⟨j,hj,rfl⟩;obtain⟨h1,m,h2⟩:=h.mem j hj;exact⟨j,(Ef hr h0 hu).2 ⟨h1,m,Pm hc h1 h2,h2⟩,rfl⟩
 ·rintro⟨j,hj,rfl⟩;obtain⟨h1,m,_,h2⟩:=(Ef hr h0 hu).1 hj;exact⟨j,(h.all hr h0 j).2 ⟨h1,m,h2⟩,rfl⟩
end
end Go.Proofs.YtblapfnglojgjaaGreatDoor
