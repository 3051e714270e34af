import Derived.Shelf.SlIterI.Nil
import Derived.Shelf.SortM.Plain
import Derived.Shelf.SortM.SortNone
import Derived.Ground.GgzProg
import Derived.Ground.SlgmProg
import Derived.Ground.SlmcProg
import Derived.Ground.SlmpProg
import Derived.Shelf.SlMaps.Clone
import Derived.Shelf.SlMaps.Copy
import Derived.Sort.OwnSortedInts
import Derived.Test.YtbdagpckhfcneaaGreatDoorKB10r
set_option maxRecDepth 100000
set_option maxHeartbeats 4000000
namespace Go.Proofs.YtbdagpckhfcneaaGreatDoor
open Go.Shelf Go.Proofs.Tryz
def Tryz.keysA_ren:Go.Shelf.Ren:=⟨fun|7=>129|10=>154|n=>n,fun|23=>137|26=>2|3=>2|28=>98|0=>0|27=>97|33=>139|4=>4|n=>n,fun|n=>n⟩
theorem Tryz.keysA:Go.Proofs.SlLaysZI.n7 prog Tryz.keysA_ren:={
 mixed:=by kernel_rfl
 f7:=⟨Tryz.f129.name,by decide,func129.trans (congrArg some (by kernel_rfl))⟩
 f10:=⟨Tryz.f154.name,by decide,func154.trans (congrArg some (by kernel_rfl))⟩
 t0:=underlying0
 a0:=isAgg0
 z0:=sizeOf0
 v0:=zeroValue0
 t4:=underlying4
 a4:=isAgg4
 z4:=sizeOf4
 v4:=zeroValue4
 t23:=underlying137
 a23:=isAgg137
 z23:=sizeOf137
 v23:=zeroValue137
 t26:=underlying2
 a26:=isAgg2
 z26:=sizeOf2
 v26:=zeroValue2
 t27:=underlying97
 a27:=isAgg97
 z27:=sizeOf97
 v27:=zeroValue97
 t28:=underlying98
 a28:=isAgg98
 z28:=sizeOf98
 v28:=zeroValue98
 t33:=underlying139
 a33:=isAgg139
 z33:=sizeOf139
 v33:=zeroValue139}
def Tryz.sortedA_ren:Go.Shelf.Ren:=⟨fun|6=>128|8=>153|9=>124|11=>174|13=>151|12=>150|23=>172|24=>173|14=>163|15=>164|16=>165|17=>166|18=>167|19=>168|20=>169|21=>170|22=>171|25=>187|26=>188|27=>189|28=>190|29=>191|30=>159|31=>201|n=>n,fun|26=>2|28=>98|24=>40|0=>0|3=>3|37=>182|48=>225|50=>180|4=>4|40=>217|39=>216|45=>222|5=>5|9=>9|51=>240|55=>243|57=>253|58=>254|33=>139|n=>n,fun|n=>n⟩
theorem Tryz.sortedA:Go.Proofs.SlLaysZI.n6 prog Tryz.sortedA_ren:={
 mixed:=by kernel_rfl
 f6:=⟨Tryz.f128.name,by decide,func128.trans (congrArg some (by kernel_rfl))⟩
 f8:=⟨Tryz.f153.name,by decide,func153.trans (congrArg some (by kernel_rfl))⟩
 f11:=⟨Tryz.f174.name,by decide,func174.trans (congrArg some (by kernel_rfl))⟩
 t0:=underlying0
 a0:=isAgg0
 z0:=sizeOf0
 v0:=zeroValue0
 t24:=underlying40
 a24:=isAgg40
 z24:=sizeOf40
 v24:=zeroValue40
 t26:=underlying2
 a26:=isAgg2
 z26:=sizeOf2
 v26:=zeroValue2
 t28:=underlying98
 a28:=isAgg98
 z28:=sizeOf98
 v28:=zeroValue98
 i26:=by kernel_rfl}
def Tryz.sortA_ren:Go.Shelf.Ren:=⟨fun|5=>124|8=>151|7=>150|19=>172|20=>173|10=>163|11=>164|12=>165|13=>166|14=>167|15=>168|16=>169|17=>170|18=>171|30=>187|31=>188|32=>189|33=>190|34=>191|35=>159|40=>201|n=>n,fun|23=>40|25=>2|3=>3|32=>182|22=>40|0=>0|44=>225|46=>180|4=>4|36=>217|35=>216|41=>222|5=>5|9=>9|53=>240|57=>243|63=>253|64=>254|n=>n,fun|n=>n⟩
theorem Tryz.sortA:Go.Proofs.SlLaysM.n5 prog Tryz.sortA_ren:={
 mixed:=by kernel_rfl
 f5:=⟨Tryz.f124.name,by decide,func124.trans (congrArg some (by kernel_rfl))⟩
 f7:=⟨Tryz.f150.name,by decide,func150.trans (congrArg some (by kernel_rfl))⟩
 f8:=func151.trans (congrArg some (by kernel_rfl))
 f10:=⟨Tryz.f163.name,by decide,func163.trans (congrArg some (by kernel_rfl))⟩
 f11:=⟨Tryz.f164.name,by decide,func164.trans (congrArg some (by kernel_rfl))⟩
 f12:=⟨Tryz.f165.name,by decide,func165.trans (congrArg some (by kernel_rfl))⟩
 f13:=⟨Tryz.f166.name,by decide,func166.trans (congrArg some (by kernel_rfl))⟩
 f14:=⟨Tryz.f167.name,by decide,func167.trans (congrArg some (by kernel_rfl))⟩
 f15:=⟨Tryz.f168.name,by decide,func168.trans (congrArg some (by kernel_rfl))⟩
 f16:=⟨Tryz.f169.name,by decide,func169.trans (congrArg some (by kernel_rfl))⟩
 f17:=⟨Tryz.f170.name,by decide,func170.trans (congrArg some (by kernel_rfl))⟩
 f18:=⟨Tryz.f171.name,by decide,func171.trans (congrArg some (by kernel_rfl))⟩
 f19:=func172.trans (congrArg some (by kernel_rfl))
 f20:=func173.trans (congrArg some (by kernel_rfl))
 f30:=⟨Tryz.f187.name,by decide,func187.trans (congrArg some (by kernel_rfl))⟩
 f31:=func188.trans (congrArg some (by kernel_rfl))
 f32:=func189.trans (congrArg some (by kernel_rfl))
 f33:=⟨Tryz.f190.name,by decide,func190.trans (congrArg some (by kernel_rfl))⟩
 f34:=⟨Tryz.f191.name,by decide,func191.trans (congrArg some (by kernel_rfl))⟩
 f35:=⟨Tryz.f159.name,by decide,func159.trans (congrArg some (by kernel_rfl))⟩
 f40:=⟨Tryz.f201.name,by decide,func201.trans (congrArg some (by kernel_rfl))⟩
 t0:=underlying0
 a0:=isAgg0
 z0:=sizeOf0
 v0:=zeroValue0
 t3:=underlying3
 a3:=isAgg3
 z3:=sizeOf3
 v3:=zeroValue3
 t4:=underlying4
 a4:=isAgg4
 z4:=sizeOf4
 v4:=zeroValue4
 t5:=underlying5
 a5:=isAgg5
 z5:=sizeOf5
 v5:=zeroValue5
 t9:=underlying9
 a9:=isAgg9
 z9:=sizeOf9
 v9:=zeroValue9
 t22:=underlying40
 a22:=isAgg40
 z22:=sizeOf40
 v22:=zeroValue40
 t23:=underlying40
 a23:=isAgg40
 z23:=sizeOf40
 v23:=zeroValue40
 t25:=underlying2
 a25:=isAgg2
 z25:=sizeOf2
 v25:=zeroValue2
 t32:=underlying182
 a32:=isAgg182
 z32:=sizeOf182
 v32:=zeroValue182
 t35:=underlying216
 a35:=isAgg216
 z35:=sizeOf216
 v35:=zeroValue216
 t36:=underlying217
 a36:=isAgg217
 z36:=sizeOf217
 v36:=zeroValue217
 t41:=underlying222
 a41:=isAgg222
 z41:=sizeOf222
 v41:=zeroValue222
 t44:=underlying225
 a44:=isAgg225
 z44:=sizeOf225
 v44:=zeroValue225
 t46:=underlying180
 a46:=isAgg180
 z46:=sizeOf180
 v46:=zeroValue180
 t53:=underlying240
 a53:=isAgg240
 z53:=sizeOf240
 v53:=zeroValue240
 t57:=underlying243
 a57:=isAgg243
 z57:=sizeOf243
 v57:=zeroValue243
 t63:=underlying253
 a63:=isAgg253
 z63:=sizeOf253
 v63:=zeroValue253
 t64:=underlying254
 a64:=isAgg254
 z64:=sizeOf254
 v64:=zeroValue254}
def Tryz.cloneA_ren:Go.Shelf.Ren:=⟨fun|5=>126|7=>152|n=>n,fun|23=>137|25=>2|3=>2|4=>4|20=>20|n=>n,fun|n=>n⟩
theorem Tryz.cloneA:Go.Proofs.SlLaysW.n5 prog Tryz.cloneA_ren:={
 mixed:=by kernel_rfl
 f5:=⟨Tryz.f126.name,by decide,func126.trans (congrArg some (by kernel_rfl))⟩
 f7:=func152.trans (congrArg some (by kernel_rfl))
 t4:=underlying4
 a4:=isAgg4
 z4:=sizeOf4
 v4:=zeroValue4
 t20:=underlying20
 a20:=isAgg20
 z20:=sizeOf20
 v20:=zeroValue20
 t23:=underlying137
 a23:=isAgg137
 z23:=sizeOf137
 v23:=zeroValue137}
def Tryz.copyA_ren:Go.Shelf.Ren:=⟨fun|5=>127|n=>n,fun|23=>137|24=>137|26=>2|27=>2|0=>0|4=>4|n=>n,fun|n=>n⟩
theorem Tryz.copyA:Go.Proofs.SlLaysX.n5 prog Tryz.copyA_ren:={
 mixed:=by kernel_rfl
 f5:=⟨Tryz.f127.name,by decide,func127.trans (congrArg some (by kernel_rfl))⟩
 t0:=underlying0
 a0:=isAgg0
 z0:=sizeOf0
 v0:=zeroValue0
 t4:=underlying4
 a4:=isAgg4
 z4:=sizeOf4
 v4:=zeroValue4
 t23:=underlying137
 a23:=isAgg137
 z23:=sizeOf137
 v23:=zeroValue137
 t24:=underlying137
 a24:=isAgg137
 z24:=sizeOf137
 v24:=zeroValue137
 a26:=isAgg2
 z26:=sizeOf2
 a27:=isAgg2
 z27:=sizeOf2}
open Go Go.RowKit Go.Deep Go.Maps Go.Sort
variable {w:World}{v:Value}{l:List Int}
def Ct(l:List Int):List Int:=l.mergeSort (fun x y=>decide (x<=y))
theorem Gz(l:List Int):(Ct l).length=l.length:=by simp[Ct]
theorem Ru(B:Nat)(v:Value)(l:List Int)(w:World)(h:AE w B v l)(hl:l.length<=100000):
 Calls prog 124 #[v] w fun e w'=>e= .returned (.tuple #[])/\AE w' B v (Ct l)/\w.grownBy w' v.ownBlock:=by
 rcases h.2 with⟨rfl,hn⟩|⟨g,cap,cur,rfl,hB,hb,h1,h2,h3,h4⟩
 ·have e0:l=[]:=List.eq_nil_of_length_eq_zero hn;subst e0;refine(AnyM.slices_Sort_int_none Tryz.sortA none 0 w).mono ?_;rintro e w' ⟨rfl,rfl⟩;have e0:Ct []=[]:=by simp[Ct]
  rw[e0];exact⟨rfl,h,⟨rfl,rfl,rfl,Nat.le_refl _,fun _ _ _=>rfl⟩⟩
 ·have hlt:g<w.heap.size:=(Array.getElem?_eq_some_iff.1 hb).1;refine(AnyM.slices_Sort_int Tryz.sortA g 0 cap l w (holds_of_blockI hb (by simpa using h4)) hlt (by omega)).mono ?_;rintro e w' ⟨rfl,n,os,rfl⟩;refine⟨rfl,?_,grownBy_sortedI _⟩;have:=ownsRow_sortedI (n:=n) (os:=os) (ts:=Ct l) (Gz l) hB hb h1 h2 h3;unfold AE;rw[Gz];exact this
theorem Lh.sorted{w0 w':World}{c:Nat}{l':List Int}(h:Lh w0 c w v l)(ho:AE w' (w0.heap.size+1+1+1) v l')(hg:w.grownBy w' v.ownBlock):Lh w0 c w' v l':=by
 have hne:∀k,k<w0.heap.size+1+1+1->some k≠v.ownBlock:=fun k hk e=>by have:=(World.ownsRow.lt h.o k e.symm).1;omega
 exact⟨h.b.trans (below_grown hg h.b.size (fun j hj=>by have:=(World.ownsRow.lt h.o j hj).1;omega)),h.q.grown hg (hne _ (by omega)),h.p.grown hg (hne _ (by omega)),h.r.grown hg (hne _ (by omega)),ho⟩
theorem AE.low{B B':Nat}(h:AE w B v l)(hB:B'<=B):AE w B' v l:=by
 refine⟨h.1,?_⟩;rcases h.2 with hn|⟨g,cap,cur,hv,hb,rest⟩
 ·exact .inl hn
 ·exact .inr ⟨g,cap,cur,hv,by omega,rest⟩
theorem Pt(w:World)(B c n:Nat)(ids ups:Nat->Int)(ob off:Nat)(nb:Nat->Nat)(kv:Nat->Value)(hN:DJ w B c n ids ob off nb kv (BH ids ups n))(hr:Dp ids n)(h0:∀j,j<n->ids j≠ups 0)
 (hw:∀i,i<n->(Lit.int .i64 (ids i)).wf=true)(hn:n<=271)(i:Nat)(hi:i<n)(hc:GX ids ups n i):
 Calls prog 83 #[.map (some c),.int .i64 (ids i)] w fun e w'=>∃v,e= .returned v/\AE w' w v (Ct ((Fq ids ups n n i).map ids))/\Below w w w':=by
 have hst:=fun(W:World) (a:Addr) (x y:Array Value) (m:Mode)=>run_store prog W a (.func (.func 123) x y) m rfl;have n1:Nw (w.alloc (.cells #[.map (some c)] 88)):=⟨⟩;have b1:Below w w n1:=Bd w _;have LK:=(hN.map.below b1).look (hw i hi);rw[Dq hr hi]at LK;simp only[Option.map_some]at LK;have hlen:(Fq ids ups n n i).length<=n:=Gu (Hy hr h0 hi hc) (fun x hx=>((Ek hr h0 hi).1 hx).1);have n2:No (.cells #[MJ w.heap.size] 172):=⟨⟩;have n3:No (.cells #[.slice none 0 0] 40):=⟨⟩;have W0:Lh w c (((n1:World).alloc n3).alloc n2) (.slice none 0 0) []:=by
  refine⟨?_,?_,?_,?_,AE.nil _ _⟩
  ·exact(b1.alloc b1.size _).alloc (b1.alloc b1.size _).size _
  ·exact((Ag.new w _).alloc _).alloc _
  ·have:=(Ag.new n1 n3).alloc n2;simpa using this
  ·have:=Ag.new ((n1:World).alloc n3) n2;simpa using this
 have C1:=hid (Yc w B c n ids ups ob off nb kv hN hr h0 hw hn n i [] (.slice none 0 0) _ hi (fun j m hj e=>MX hc hj e) (by simp;omega) W0);unfold MJ at C1;simp only[List.nil_append]at C1;clear W0 hN h0 hw hr;go_enter func83,ntmps83
 go_wp2_with fail
 refine C1.out.mono ?_;rintro e w2 ⟨v2,rfl,h2⟩;have H2:=hid h2;have x1:_=some v2:=h2.p.c0 0 rfl;have C2:=hid (Ru _ v2 _ w2 h2.o (by rw[List.length_map];omega));clear h2 C1 LK;go_wp2_with fail
 refine C2.out.mono ?_;rintro e w3 ⟨rfl,o3,g3⟩;have H3:=hid (H2.out.sorted o3 g3);have x3:_=some v2:=H3.out.p.c0 0 rfl;clear o3 g3 x1 C2 H2;go_wp2;go_ret;exact⟨v2,rfl,H3.out.o.low (by omega),H3.out.b⟩
theorem Uq{n:Nat}{O:Nat->Ab}(h:Cl n O=true):((((Ct ((Fq (fun i=>(O i).id) (fun i=>(O i).up) n n 0).map (fun i=>(O i).id))).length:Nat):Int)==(n:Int))=E8 (fun i=>(O i).id) (fun i=>(O i).up) n:=by
 rw[Gz,List.length_map];obtain⟨h1,_⟩:=Cp h;have hp:=Wt (Bv h) (ups:=fun i=>(O i).up) (fun j hj=>by have:=Ep h j hj;have:=(CF h).2.2;omega) (by omega);rw[Bool.eq_iff_iff,<-hp];simp only[beq_iff_eq];omega
theorem Wg{n:Nat}{O:Nat->Ab}(h:Cl n O=true):∃L:Nat,(Ct ((Fq (fun i=>(O i).id) (fun i=>(O i).up) n n 0).map (fun i=>(O i).id))).length=L/\L<=271/\((L:Int)==(n:Int))=E8 (fun i=>(O i).id) (fun i=>(O i).up) n:=by
 refine⟨_,rfl,?_,Uq h⟩;rw[Gz,List.length_map];obtain⟨h1,h2,_⟩:=Cp h;have:=Gu (Hy (Bv h) (ups:=fun i=>(O i).up) (fun j hj=>by have:=Ep h j hj;have:=(CF h).2.2;omega) (f:=n) (i:=0) (by omega) FQ) (fun x hx=>((Ek (Bv h) (ups:=fun i=>(O i).up) (fun j hj=>by have:=Ep h j hj;have:=(CF h).2.2;omega) (by omega)).1 hx).1);omega
theorem Q0(a:Option Addr)(n cap:Nat)(O:Nat->Ab)(w:World)(hcap:n<=cap)(hO:Hi w a n O)(h2:Cl n O=true)(hw:∀i,i<n->(Lit.int .i64 (O i).id).wf=true/\(Lit.int .i64 (O i).up).wf=true):
 Calls prog 39 #[.slice a n cap] w fun e w'=>e= .returned (.bool (Ir n O&&E8 (fun i=>(O i).id) (fun i=>(O i).up) n))/\Below w w w':=by
 obtain⟨on1,on2,_,_⟩:=Cp h2;have HO:=hid hO;obtain⟨ob,off,rfl,_,_⟩:=hO (by omega);have HW:=hid hw;have H2:=hid h2;obtain⟨L,eL,hL,rL⟩:=Wg h2;have EL:=hid eL;have RL:=hid rL;clear eL rL;clear hO h2 hw;have C1:=hid (IR ob off n cap O w on2 HO (Bv H2) HW);go_enter func39,ntmps39
 go_wp2_with fail
 refine C1.out.mono ?_;rintro e w1 ⟨c,nb,kv,rfl,hN,b1⟩;have HN:=hid hN;clear hN C1;have END:Hid (∀wr:World,Below w1 w1 wr->Calls prog 83 #[.map (some c),.int .i64 1] wr fun e w'=>∃a2 k2,e= .returned (.slice a2 L k2)/\Below wr wr w'):=hid (fun wr hb=>by
  have:=Pt wr w c n (fun i=>(O i).id) (fun i=>(O i).up) ob off nb kv (HN.out.below hb) (Bv H2) (fun j hj=>by have:=Ep H2 j hj;have:=(CF H2).2.2;omega) (fun i hi=>(HW i hi).1) on2 0 (by omega) FQ;rw[(CF H2.out).1]at this;refine this.mono ?_;rintro e w' ⟨v,rfl,o,b⟩;obtain⟨a2,k2,rfl⟩:=CZ o;rw[EL.out];exact⟨a2,k2,rfl,b⟩)
 have c1:(n:Int)<=(cap:Int):=by omega
 have c2:(1:Int)<=(n:Int):=by omega
 by_cases hok:cap=1
 ·obtain rfl:n=1:=by omega
  subst hok;go_wp2;go_loopw [12] (fun i wr=>i= .int .i64 0/\Below w1 w1 wr) (fun i _=>0)
  case atStart=>exact⟨rfl,Below.refl _ _⟩
  case round=>
   obtain⟨rfl,hB⟩:=hrel;go_wp2_with fail
   refine(END wr hB).mono ?_;rintro e w2 ⟨a2,k2,rfl,b2⟩;go_wp2;go_ret;refine⟨Ah ?_,Af b1 (Af hB b2)⟩;rw[<-RL.out];simp[Ir]
 ·go_wp2;go_loopw [12] (fun i wr=>∃q:Nat,q<=n-1/\i= .int .i64 q/\Hid (∀p,p<q->FE n O (O (p+1)).up=true)/\Below w1 w1 wr) (fun i _=>n-1-(intOf i).toNat)
  case atStart=>exact⟨0,Nat.zero_le _,rfl,hid (fun p hp=>by omega),Below.refl _ _⟩
  case round=>
   obtain⟨q,hq,rfl,HA,hB⟩:=hrel;by_cases hlt2:q<n-1
   ·obtain⟨_,_,ea,hlt0,hcc⟩:=(HO.out.below b1).below hB (by omega);cases ea;obtain⟨⟨q0,q1,q2,q3,q4,q5,q6,q7,q8,q9⟩,ht⟩:=hcc (q+1) (by omega);have ei:off+(q+1)*10=off+10+q*10:=(by omega);rw[ei]at q0 q1 q2 q3 q4 q5 q6 q7 q8 q9;have i2:(q:Int)<((n-1:Nat):Int):=(by omega);simp only[Aq.val,AH.val,Aw.val]at q4 q6 q7 q9;have bC:Below wr wr (wr.alloc (.cells (O (q+1)) 47)):=Bd wr _;have BC:=Af hB bC;have N1:=hid (HN.out.below BC);have LK:=N1.out.map.look (x:=(O (q+1)).up) (HW (q+1) (by omega)).2;cases hf:Bh (fun i=>(O i).id) n (O (q+1)).up with
    |none=>
     have BO:Hid (FE n O (O (q+1)).up=false):=hid (by simp[FE,hf]);rw[hf]at LK;simp only[Option.map_none]at LK;clear hcc ht ei hf;go_wp2;go_ret;exact⟨Ah (by rw[Ir,GJ hlt2 BO.out];rfl),Af b1 BC⟩
    |some u=>
     obtain⟨hu,_⟩:=Ay hf;have BO:Hid (FE n O (O (q+1)).up=((O u).kind==3)):=hid (by simp[FE,hf]);rw[hf]at LK;simp only[Option.map_some]at LK;have k1:=(hcc u hu).1.c1;have k2:=(bC.cell (p:=⟨ob,off+u*10+1,none⟩) hlt0).trans k1;have n1:_=some (Value.pointer (some ⟨ob,off+u*10,none⟩)):=(N1.out.blk u hu).c0 0 rfl;clear hcc ht ei hf k1;cases c3:((O u).kind==3)with
     |false=>
      rw[c3]at BO;have c3':¬(O u).kind=3:=(by simpa using c3);go_wp2;go_ret;exact⟨Ah (by rw[Ir,GJ hlt2 BO.out];rfl),Af b1 BC⟩
     |true=>
      rw[c3]at BO;have c3':(O u).kind=3:=(by simpa using c3);rw[c3']at k2;clear c3;go_wp2;refine⟨⟨q+1,by omega,by go_num,hid (fun p hp=>?_),BC⟩,by simp[intOf];omega⟩;by_cases e:p=q
      ·subst e;exact BO.out
      ·exact HA.out p (by omega)
   ·have e:q=n-1:=(by omega);subst e;go_wp2_with fail
    refine(END wr hB).mono ?_;rintro e w2 ⟨a2,k2,rfl,b2⟩;go_wp2;go_ret;refine⟨Ah ?_,Af b1 (Af hB b2)⟩;rw[Ir,Eh HA.out,Bool.true_and,<-RL.out]
theorem IE(k:AF)(w:World)(hk:k.at w)(hcap:k.on<=k.ok)(hw:∀i,i<k.on->(Lit.int .i64 (k.O i).id).wf=true/\(Lit.int .i64 (k.O i).up).wf=true):
 Calls prog 12 #[k.val] w fun e w'=>e= .returned (.bool (Bl k))/\Below w w w':=by
 have n1:No (.cells #[.slice k.ta k.tn k.tk,.slice k.oa k.on k.ok] 27):=⟨⟩;have hb0:=(Below.refl _ w).alloc nr n1;have A0:=Ag.new w n1;have T0:=hid (hk.below hb0);have HW:=hid hw;have HC:=hid hcap;unfold AF.val;obtain⟨x0,x1⟩:=A0.two;clear hk hw hcap;go_enter func12,ntmps12
 go_wp2_with fail
 refine(Ox _ _ _ k.T _ T0.out.1 T0.out.2.2.1).mono ?_;rintro e w1 ⟨rfl,hb1⟩;have A1:=A0.below hb1;have T1:=hid (T0.out.below hb1);have B1:=Af hb0 hb1;clear x0 x1 A0 T0 hb0 hb1;obtain⟨x0,x1⟩:=A1.two;cases t1:Br k.tn k.T with
 |false=>
  go_wp2;go_ret;exact⟨Ah (Gx t1).symm,B1⟩
 |true=>
 go_wp2_with fail
 refine(Pb _ _ _ k.O _ T1.out.2.1 T1.out.2.2.2).mono ?_;rintro e w2 ⟨rfl,hb2⟩;have A2:=A1.below hb2;have T2:=hid (T1.out.below hb2);have B2:=Af B1 hb2;clear x0 x1 A1 T1 B1 hb2;obtain⟨x0,x1⟩:=A2.two;cases t2:Cl k.on k.O with
 |false=>
  go_wp2;go_ret;exact⟨Ah (by simp[Bl,t2]),B2⟩
 |true=>
 have C3:=hid (Ov k w2 T2 HC t1 t2 (fun i hi=>(HW i hi).1));unfold AF.val at C3;go_wp2_with fail
 refine C3.out.mono ?_;rintro e w3 ⟨rfl,hb3⟩;have A3:=A2.below hb3;have T3:=hid (T2.out.below hb3);have B3:=Af B2 hb3;clear x0 x1 A2 T2 B2 hb3 C3;obtain⟨x0,x1⟩:=A3.two;cases t3:Gq k.tn k.T k.on k.O with
 |false=>
  go_wp2;go_ret;exact⟨Ah (by simp[Bl,t3]),B3⟩
 |true=>
 have C4:=hid (Q0 k.oa k.on k.ok k.O w3 HC T3.out.2.2.2 t2 HW);have OK:Hid (Bl k=(Ir k.on k.O&&E8 (fun i=>(k.O i).id) (fun i=>(k.O i).up) k.on)):=hid (by simp[Bl,t1,t2,t3]);clear t1 t2 t3;go_wp2_with fail
 refine C4.out.mono ?_;rintro e w4 ⟨rfl,hb4⟩;have B4:=Af B3 hb4;rw[<-OK.out];clear x0 x1 A3 T3 B3 hb4 C4;go_wp2;go_ret;exact⟨rfl,B4⟩
variable {x:Int}{q:Nat}{k:AF}
def Jt(O:Nat->Ab)(x:Int)(q:Nat):List Int:=((List.range q).filter (fun j=>(O j).up==x)).map (fun i=>(O i).id)
theorem Zi{O:Nat->Ab}(h:(O q).up=x):Jt O x (q+1)=Jt O x q++[(O q).id]:=by
 simp[Jt,List.range_succ,h]
theorem ZJ{O:Nat->Ab}(h:(O q).up≠x):Jt O x (q+1)=Jt O x q:=by
 simp[Jt,List.range_succ,h]
theorem UK(O:Nat->Ab)(x:Int)(q:Nat):(Jt O x q).length<=q:=by
 unfold Jt;rw[List.length_map];exact Nat.le_trans (List.length_filter_le _ _) (by simp)
theorem Xr{O:Nat->Ab}{n u:Nat}:Jt O (O u).id n=BH (fun i=>(O i).id) (fun i=>(O i).up) n u:=rfl
theorem MD(k:AF)(x:Int)(w:World)(hk:k.at w)(hn:k.on<=271):
 Calls prog 121 #[k.val,.int .i64 x] w fun e w'=>∃v,e= .returned v/\AE w' w v (Jt k.O x k.on)/\Below w w w':=by
 have n1:No (.cells #[.slice k.ta k.tn k.tk,.slice k.oa k.on k.ok] 27):=⟨⟩;have hb0:=(Below.refl _ w).alloc nr n1;have A0:=Ag.new w n1;have bm:=hb0.alloc hb0.size (.cells #[] 2);have A1:=A0.alloc (.cells #[] 2);have O1:=AE.made (w.alloc n1) (w.heap.size+1) (by simp);have HT:=hid hk;unfold AF.val;clear hk;go_enter func121,ntmps121
 go_wp2;generalize hW:((w.alloc n1).alloc (.cells #[] 2))=W at *;have O2:AE W (w.heap.size+1) (.slice (some ⟨w.heap.size+1,0,none⟩) 0 0) []:=by simpa using O1
 clear hW hb0 A0 O1;go_loopw [5,6] (fun v i wr=>∃q:Nat,q<=k.on/\i= .int .i64 q/\Hid (AE wr (w.heap.size+1) v (Jt k.O x q))/\Ag wr w n1/\Below w w wr) (fun _ i _=>k.on-(intOf i).toNat)
 case atStart=>exact⟨0,Nat.zero_le _,rfl,hid O2,A1,bm⟩
 case round=>
  clear O2 A1 bm;obtain⟨q,hq,rfl,HO,A,hB⟩:=hrel;obtain⟨x0,x1⟩:=A.two;by_cases hlt:q<k.on
  ·obtain⟨b,off,ea,hlt0,hcc⟩:=HT.out.2.2.2.below hB (by omega);have q0:=(hcc q hlt).1.c0;have q2:=(hcc q hlt).1.c2;rw[ea]at x1;have i1:(q:Int)<(k.on:Int):=(by omega);clear hcc ea;by_cases e:(k.O q).up=x
   ·have e':((k.O q).up==x)=true:=(by simpa using e);have EQ:=hid (Zi e);have hl:=UK k.O x q;have n2:No (.cells #[.int .i64 (k.O q).id] 2):=⟨⟩;have B1:Below w w (wr.alloc n2):=hB.alloc hB.size _;have AA:=A.alloc n2;have OA:=hid (AE.alloc HO n2);have L1:=hid (Dv.one (w:=wr) (k.O q).id);have s1:w.heap.size+1<=(wr.alloc n2).heap.size:=(by have:=A.lt;simp;omega);have FIN:Hid (∀w3:World,(wr.alloc n2).grownBy w3 u5.ownBlock->Ag w3 w (.cells #[.slice k.ta k.tn k.tk,.slice k.oa k.on k.ok] 27)/\Below w w w3):=hid (fun w3 g3=>⟨AA.grown g3 (fun e=>by have:=(World.ownsRow.lt OA _ e.symm).1;omega),B1.trans (below_grown g3 B1.size (fun j hj=>by have:=(World.ownsRow.lt OA j hj).1;omega))⟩);clear e HO;go_wp2_with(refine DY _ rfl _ _ rfl (w.heap.size+1) u5 (Jt k.O x q) rfl OA _ 1 1 [(k.O q).id] rfl rfl L1 (by omega) s1 ?_;intro a3 c3 w3 o3 g3 v3)
    rw[<-EQ.out]at o3;obtain⟨f1,f2⟩:=FIN.out w3 g3;exact⟨⟨q+1,by omega,by go_num,hid (by first|exact o3|simpa[EQ.out]using o3),f1,f2⟩,by simp[intOf];omega⟩
   ·have e':((k.O q).up==x)=false:=(by simpa using e);have EQ:=hid (ZJ e);clear e;go_wp2;exact⟨⟨q+1,by omega,by go_num,hid (by rw[EQ.out];exact HO.out),A,hB⟩,by simp[intOf];omega⟩
  ·have i1:¬(q:Int)<(k.on:Int):=(by omega);have e:q=k.on:=(by omega);have HO2:Hid (AE wr (w.heap.size+1) u5 (Jt k.O x k.on)):=hid (by rw[<-e];exact HO.out);clear HO e;go_wp2;go_ret;exact⟨u5,rfl,HO2.out.low (by omega),hB⟩
theorem BF(h:Bl k=true):Br k.tn k.T=true/\Cl k.on k.O=true/\Gq k.tn k.T k.on k.O=true/\Ir k.on k.O=true/\E8 (fun i=>(k.O i).id) (fun i=>(k.O i).up) k.on=true:=by
 simp only[Bl,Bool.and_eq_true]at h;exact⟨h.1.1.1.1,h.1.1.1.2,h.1.1.2,h.1.2,h.2⟩
theorem PH(h:Bl k=true){c:Nat}(hc:c<k.on)(h0:c≠0):∃u,Bh (fun i=>(k.O i).id) k.on (k.O c).up=some u:=by
 have hu:=Gd (BF h).2.2.2.1 (c-1) (by omega);have e:c-1+1=c:=by omega
 simp only[e]at hu;unfold FE at hu;split at hu
 ·rename_i u hu';exact⟨u,hu'⟩
 ·cases hu

theorem Kj(L:List Int)(x:Int):(DD L x).length<=L.length+1:=by
 unfold DD;split
 ·omega
 ·simp;omega
theorem X1(L:List Int)(x:Int):0<(DD L x).length:=by
 unfold DD;split
 ·rename_i h;have:=(List.getElem?_eq_some_iff.1 h).1;omega
 ·simp;omega
theorem Nc{L:List Int}{x y:Int}(h:y∈DD L x):y∈L∨y=x:=by
 unfold DD at h;split at h
 ·exact .inl h
 ·rw[List.mem_append,List.mem_append,List.mem_singleton]at h;rcases h with(h|h)|h
  ·exact .inl (List.mem_of_mem_take h)
  ·exact .inr h
  ·exact .inl (List.mem_of_mem_drop h)
theorem Je{L:List Int}{x:Int}(h:L.Pairwise (· <·)):(DD L x).Pairwise (· <·):=by
 unfold DD;split
 ·exact h
 ·rename_i hx;have hlo:∀y∈L.take (putAt L x),y<x:=by
   intro y hy;obtain⟨j,hj,rfl⟩:=List.getElem_of_mem hy;have hj':j<putAt L x:=(by simp at hj;omega);have:=List.not_of_lt_findIdx hj';simp at this;simpa using this
  have hhi:∀y∈L.drop (putAt L x),x<y:=by
   intro y hy;obtain⟨j,hj,rfl⟩:=List.getElem_of_mem hy;rw[List.getElem_drop];have hlen:putAt L x<L.length:=(by simp at hj;omega);have h0:¬L[putAt L x]<x:=by
    have:=List.findIdx_getElem (xs:=L) (p:=fun y=> !decide (y<x)) (w:=hlen);unfold putAt;simpa using this
   have h1:L[putAt L x]≠x:=fun e=>hx (by rw[List.getElem?_eq_getElem hlen,e]);by_cases ej:j=0
   ·subst ej;simp;omega
   ·have:=List.pairwise_iff_getElem.1 h (putAt L x) (putAt L x+j) hlen (by simp at hj;omega) (by omega);omega
  rw[List.append_assoc,List.pairwise_append];refine⟨h.sublist (List.take_sublist _ _),?_,?_⟩
  ·rw[List.singleton_append,List.pairwise_cons];exact⟨hhi,h.sublist (List.drop_sublist _ _)⟩
  ·intro y hy z hz;have h1:=hlo y hy;rw[List.singleton_append,List.mem_cons]at hz;rcases hz with rfl|hz
   ·exact h1
   ·have:=hhi z hz;omega
theorem Uz{L:List Int}{x y:Int}:y∈DD L x↔y∈L∨y=x:=by
 refine⟨Nc,fun h=>?_⟩;unfold DD;split
 ·rename_i e;rcases h with h|rfl
  ·exact h
  ·exact List.mem_of_getElem? e
 ·rcases h with h|rfl
  ·rw[<-List.take_append_drop (putAt L x) L]at h;rcases List.mem_append.1 h with h|h
   ·exact List.mem_append_left _ (List.mem_append_left _ h)
   ·exact List.mem_append_right _ h
  ·simp
theorem Nu:∀{l m:List Int},l.Pairwise (· <·)->m.Pairwise (· <·)->(∀x,x∈l↔x∈m)->l=m
 |[],[],_,_,_=>rfl
 |[],b::m,_,_,h=>by have:=(h b).2 List.mem_cons_self;cases this
 |a::l,[],_,_,h=>by have:=(h a).1 List.mem_cons_self;cases this
 |a::l,b::m,h1,h2,h=>by
  obtain⟨a1,a2⟩:=List.pairwise_cons.1 h1;obtain⟨b1,b2⟩:=List.pairwise_cons.1 h2;have e:a=b:=by
   rcases List.mem_cons.1 ((h a).1 List.mem_cons_self)with e|e
   ·exact e
   ·rcases List.mem_cons.1 ((h b).2 List.mem_cons_self)with e'|e'
    ·exact e'.symm
    ·have:=a1 b e';have:=b1 a e;omega
  subst e;rw[Nu a2 b2 fun x=>?_];constructor
  ·intro hx;rcases List.mem_cons.1 ((h x).1 (List.mem_cons_of_mem _ hx))with e|e
   ·subst e;have:=a1 x hx;omega
   ·exact e
  ·intro hx;rcases List.mem_cons.1 ((h x).2 (List.mem_cons_of_mem _ hx))with e|e
   ·subst e;have:=b1 x hx;omega
   ·exact e
theorem Lb{l:List Int}{x:Int}:x∈Ct l↔x∈l:=(List.mergeSort_perm l _).mem_iff
theorem Ub{l:List Int}(h:l.Nodup):(Ct l).Pairwise (· <·):=by
 have h1:(Ct l).Pairwise (fun a b=>a<=b):=by
  have:=List.pairwise_mergeSort (le:=fun(x y:Int)=>decide (x<=y)) (fun a b c h1 h2=>by simp at *;omega) (fun a b=>by simp;omega) l;exact this.imp (fun h=>by simpa using h)
 have h2:(Ct l).Nodup:=(List.mergeSort_perm l _).nodup_iff.2 h;exact(h1.and h2).imp (fun{a b} ⟨h3,h4⟩=>by omega)
def DX(L:List Int):List Int:=L.foldl DD []
theorem SK(L:List Int):(DX L).Pairwise (· <·):=by
 unfold DX;have:∀(M:List Int),M.Pairwise (· <·)->(L.foldl DD M).Pairwise (· <·):=by
  induction L with
  |nil=>intro M h;exact h
  |cons a L ih=>intro M h;exact ih _ (Je h)
 exact this [] List.Pairwise.nil
theorem Ua(L:List Int)(x:Int):x∈DX L↔x∈L:=by
 unfold DX;have:∀(M:List Int),x∈L.foldl DD M↔x∈M∨x∈L:=by
  induction L with
  |nil=>intro M;simp
  |cons a L ih=>intro M;rw[List.foldl_cons,ih,Uz,List.mem_cons];exact or_assoc
 rw[this []];simp
theorem To(L:List Int):(DX L).length<=L.length:=by
 unfold DX;have:∀(M:List Int),(L.foldl DD M).length<=M.length+L.length:=by
  induction L with
  |nil=>intro M;simp
  |cons a L ih=>intro M;rw[List.foldl_cons];have:=ih (DD M a);have:=Kj M a;simp only[List.length_cons];omega
 simpa using this []
section
variable {ids ups:Nat->Int}{n u:Nat}
structure UL(ids ups:Nat->Int)(n u t:Nat)(Q:List Nat):Prop where
 nodup:Q.Nodup
 head:Q[0]? =some u
 mem:∀j∈Q,j<n/\∃m,Bm ids ups n m j=some u
 closed:∀s a,s<t->Q[s]? =some a->∀c∈Du ids ups n a,c∈Q
 origin:∀s c,0<s->Q[s]? =some c->∃r a,r<t/\Q[r]? =some a/\Jk ids ups n c=some a
theorem UL.start(hu:u<n):UL ids ups n u 0 [u]:=by
 refine⟨by simp,rfl,fun j hj=>?_,fun s a hs=>by omega,fun s c hs e=>?_⟩
 ·simp at hj;subst hj;exact⟨hu,0,rfl⟩
 ·cases s with
  |zero=>omega
  |succ s=>simp at e
theorem UL.step(hr:Dp ids n)(h0:∀j,j<n->ids j≠ups 0)(hc:GX ids ups n u){t a:Nat}{Q:List Nat}(h:UL ids ups n u t Q)(ht:Q[t]? =some a):UL ids ups n u (t+1) (Q++Du ids ups n a):=by
 have hta:t<Q.length:=(List.getElem?_eq_some_iff.1 ht).1;obtain⟨han,ma,hma⟩:=h.mem a (List.mem_of_getElem? ht);have kid:∀c,c∈Du ids ups n a->c<n/\Jk ids ups n c=some a:=fun c hc=>(Fx hr h0 han).1 hc;have old:∀{s x},Q[s]? =some x->(Q++Du ids ups n a)[s]? =some x:=fun{s x} e=>by
  rw[List.getElem?_append_left (List.getElem?_eq_some_iff.1 e).1];exact e
 refine⟨?_,old h.head,fun j hj=>?_,fun s b hs e c hcb=>?_,fun s c hs e=>?_⟩
 ·rw[List.nodup_append];refine⟨h.nodup,List.Nodup.sublist List.filter_sublist List.nodup_range,fun x hx y hy exy=>?_⟩;subst exy;obtain⟨_,px⟩:=kid x hy;obtain⟨s,hs,es⟩:=List.getElem_of_mem hx;by_cases s0:s=0
  ·subst s0;have:x=u:=(by have:=h.head;rw[List.getElem?_eq_getElem hs,es]at this;simpa using this);subst this;exact hc ma (by simp only[Bm,px,Option.bind_some];exact hma)
  ·obtain⟨r,b,hrt,hb,pb⟩:=h.origin s x (by omega) (by rw[List.getElem?_eq_getElem hs,es]);rw[px]at pb;have eab:a=b:=(by simpa using pb);subst eab;have hrl:=(List.getElem?_eq_some_iff.1 hb).1;have e1:=(List.getElem?_eq_some_iff.1 hb).2;have e2:=(List.getElem?_eq_some_iff.1 ht).2;have:=(List.getElem_inj (h₀:=hrl) (h₁:=hta) h.nodup).1 (e1.trans e2.symm);omega
 ·rcases List.mem_append.1 hj with hj|hj
  ·exact h.mem j hj
  ·obtain⟨h1,h2⟩:=kid j hj;exact⟨h1,ma+1,by simp only[Bm,h2,Option.bind_some];exact hma⟩
 ·by_cases est:s=t
  ·subst est;rw[old ht]at e;have:a=b:=(by simpa using e);subst this;exact List.mem_append_right _ hcb
  ·have hsl:s<Q.length:=(by omega);rw[List.getElem?_append_left hsl]at e;exact List.mem_append_left _ (h.closed s b (by omega) e c hcb)
 ·by_cases hsl:s<Q.length
  ·rw[List.getElem?_append_left hsl]at e;obtain⟨r,b,h1,h2,h3⟩:=h.origin s c hs e;exact⟨r,b,by omega,old h2,h3⟩
  ·rw[List.getElem?_append_right (by omega)]at e;exact⟨t,a,by omega,old ht,(kid c (List.mem_of_getElem? e)).2⟩
theorem UL.len{t:Nat}{Q:List Nat}(h:UL ids ups n u t Q):Q.length<=n:=Gu h.nodup (fun x hx=>(h.mem x hx).1)
theorem UL.all(hr:Dp ids n)(h0:∀j,j<n->ids j≠ups 0){Q:List Nat}(h:UL ids ups n u Q.length Q)(j:Nat):j∈Q↔j<n/\∃m,Bm ids ups n m j=some u:=by
 refine⟨h.mem j,?_⟩;rintro⟨hj,m,e⟩;induction m generalizing j with
 |zero=>
  simp only[Bm,Option.some.injEq]at e;subst e;exact List.mem_of_getElem? h.head
 |succ m ih=>
  simp only[Bm]at e;cases ep:Jk ids ups n j with
  |none=>simp[ep]at e
  |some p=>
   simp only[ep,Option.bind_some]at e;have hp:=ih p (Nr ep) e;obtain⟨s,hs,es⟩:=List.getElem_of_mem hp;exact h.closed s p hs (by rw[List.getElem?_eq_getElem hs,es]) j ((Fx hr h0 (Nr ep)).2 ⟨hj,ep⟩)
theorem Zg(hr:Dp ids n)(h0:∀j,j<n->ids j≠ups 0)(hu:u<n)(hc:GX ids ups n u){Q:List Nat}(h:UL ids ups n u Q.length Q):DX (Q.map ids)=Ct ((Fq ids ups n n u).map ids):=by
 have inj:∀{l:List Nat},l.Nodup->(∀x∈l,x<n)->(l.map ids).Nodup:=fun{l} hl hx=>by
  rw[List.Nodup,List.pairwise_map];refine List.Pairwise.imp_of_mem ?_ hl;intro a b ha hb hab e;exact hab (hr.inj (hx a ha) (hx b hb) e)
 refine Nu (SK _) (Ub (inj (Hy hr h0 hu hc) (fun x hx=>((Ek hr h0 hu).1 hx).1))) fun x=>?_;rw[Ua,Lb,List.mem_map,List.mem_map];constructor
 ·rintro⟨j,hj,rfl⟩;obtain⟨h1,m,h2⟩:=h.mem j hj;exact⟨j,(Ek hr h0 hu).2 ⟨h1,m,MX hc h1 h2,h2⟩,rfl⟩
 ·rintro⟨j,hj,rfl⟩;obtain⟨h1,m,_,h2⟩:=(Ek hr h0 hu).1 hj;exact⟨j,(h.all hr h0 j).2 ⟨h1,m,h2⟩,rfl⟩
end
end Go.Proofs.YtbdagpckhfcneaaGreatDoor
