import Derived.Shelf.SlIterI.Nil
import Derived.Shelf.SortM.Plain
import Derived.Shelf.SortM.SortNone
import Derived.Ground.GgzProg
import Derived.Ground.SlgmProg
import Derived.Ground.SlmcProg
import Derived.Ground.SlmpProg
import Derived.Shelf.SlMaps.Clone
import Derived.Shelf.SlMaps.Copy
import Derived.Sort.OwnSortedInts
import Derived.Test.YtbdagpckhfcneaaGreatDoorKB10o
set_option maxRecDepth 100000
set_option maxHeartbeats 16000000
namespace Go.Proofs.YtbdagpckhfcneaaGreatDoor
open Go.Shelf Go.Proofs.Tryz
def Tryz.keysA_ren:Go.Shelf.Ren:=⟨fun|7=>129|10=>154|n=>n,fun|23=>137|26=>2|3=>2|28=>98|0=>0|27=>97|33=>139|4=>4|n=>n,fun|n=>n⟩
theorem Tryz.keysA:Go.Proofs.SlLaysZI.n7 prog Tryz.keysA_ren:={
 mixed:=by kernel_rfl
 f7:=⟨Tryz.f129.name,by decide,func129.trans (congrArg some (by kernel_rfl))⟩
 f10:=⟨Tryz.f154.name,by decide,func154.trans (congrArg some (by kernel_rfl))⟩
 t0:=underlying0
 a0:=isAgg0
 z0:=sizeOf0
 v0:=zeroValue0
 t4:=underlying4
 a4:=isAgg4
 z4:=sizeOf4
 v4:=zeroValue4
 t23:=underlying137
 a23:=isAgg137
 z23:=sizeOf137
 v23:=zeroValue137
 t26:=underlying2
 a26:=isAgg2
 z26:=sizeOf2
 v26:=zeroValue2
 t27:=underlying97
 a27:=isAgg97
 z27:=sizeOf97
 v27:=zeroValue97
 t28:=underlying98
 a28:=isAgg98
 z28:=sizeOf98
 v28:=zeroValue98
 t33:=underlying139
 a33:=isAgg139
 z33:=sizeOf139
 v33:=zeroValue139}
def Tryz.sortedA_ren:Go.Shelf.Ren:=⟨fun|6=>128|8=>153|9=>124|11=>174|13=>151|12=>150|23=>172|24=>173|14=>163|15=>164|16=>165|17=>166|18=>167|19=>168|20=>169|21=>170|22=>171|25=>187|26=>188|27=>189|28=>190|29=>191|30=>159|31=>201|n=>n,fun|26=>2|28=>98|24=>40|0=>0|3=>3|37=>182|48=>225|50=>180|4=>4|40=>217|39=>216|45=>222|5=>5|9=>9|51=>240|55=>243|57=>253|58=>254|33=>139|n=>n,fun|n=>n⟩
theorem Tryz.sortedA:Go.Proofs.SlLaysZI.n6 prog Tryz.sortedA_ren:={
 mixed:=by kernel_rfl
 f6:=⟨Tryz.f128.name,by decide,func128.trans (congrArg some (by kernel_rfl))⟩
 f8:=⟨Tryz.f153.name,by decide,func153.trans (congrArg some (by kernel_rfl))⟩
 f11:=⟨Tryz.f174.name,by decide,func174.trans (congrArg some (by kernel_rfl))⟩
 t0:=underlying0
 a0:=isAgg0
 z0:=sizeOf0
 v0:=zeroValue0
 t24:=underlying40
 a24:=isAgg40
 z24:=sizeOf40
 v24:=zeroValue40
 t26:=underlying2
 a26:=isAgg2
 z26:=sizeOf2
 v26:=zeroValue2
 t28:=underlying98
 a28:=isAgg98
 z28:=sizeOf98
 v28:=zeroValue98
 i26:=by kernel_rfl}
def Tryz.sortA_ren:Go.Shelf.Ren:=⟨fun|5=>124|8=>151|7=>150|19=>172|20=>173|10=>163|11=>164|12=>165|13=>166|14=>167|15=>168|16=>169|17=>170|18=>171|30=>187|31=>188|32=>189|33=>190|34=>191|35=>159|40=>201|n=>n,fun|23=>40|25=>2|3=>3|32=>182|22=>40|0=>0|44=>225|46=>180|4=>4|36=>217|35=>216|41=>222|5=>5|9=>9|53=>240|57=>243|63=>253|64=>254|n=>n,fun|n=>n⟩
theorem Tryz.sortA:Go.Proofs.SlLaysM.n5 prog Tryz.sortA_ren:={
 mixed:=by kernel_rfl
 f5:=⟨Tryz.f124.name,by decide,func124.trans (congrArg some (by kernel_rfl))⟩
 f7:=⟨Tryz.f150.name,by decide,func150.trans (congrArg some (by kernel_rfl))⟩
 f8:=func151.trans (congrArg some (by kernel_rfl))
 f10:=⟨Tryz.f163.name,by decide,func163.trans (congrArg some (by kernel_rfl))⟩
 f11:=⟨Tryz.f164.name,by decide,func164.trans (congrArg some (by kernel_rfl))⟩
 f12:=⟨Tryz.f165.name,by decide,func165.trans (congrArg some (by kernel_rfl))⟩
 f13:=⟨Tryz.f166.name,by decide,func166.trans (congrArg some (by kernel_rfl))⟩
 f14:=⟨Tryz.f167.name,by decide,func167.trans (congrArg some (by kernel_rfl))⟩
 f15:=⟨Tryz.f168.name,by decide,func168.trans (congrArg some (by kernel_rfl))⟩
 f16:=⟨Tryz.f169.name,by decide,func169.trans (congrArg some (by kernel_rfl))⟩
 f17:=⟨Tryz.f170.name,by decide,func170.trans (congrArg some (by kernel_rfl))⟩
 f18:=⟨Tryz.f171.name,by decide,func171.trans (congrArg some (by kernel_rfl))⟩
 f19:=func172.trans (congrArg some (by kernel_rfl))
 f20:=func173.trans (congrArg some (by kernel_rfl))
 f30:=⟨Tryz.f187.name,by decide,func187.trans (congrArg some (by kernel_rfl))⟩
 f31:=func188.trans (congrArg some (by kernel_rfl))
 f32:=func189.trans (congrArg some (by kernel_rfl))
 f33:=⟨Tryz.f190.name,by decide,func190.trans (congrArg some (by kernel_rfl))⟩
 f34:=⟨Tryz.f191.name,by decide,func191.trans (congrArg some (by kernel_rfl))⟩
 f35:=⟨Tryz.f159.name,by decide,func159.trans (congrArg some (by kernel_rfl))⟩
 f40:=⟨Tryz.f201.name,by decide,func201.trans (congrArg some (by kernel_rfl))⟩
 t0:=underlying0
 a0:=isAgg0
 z0:=sizeOf0
 v0:=zeroValue0
 t3:=underlying3
 a3:=isAgg3
 z3:=sizeOf3
 v3:=zeroValue3
 t4:=underlying4
 a4:=isAgg4
 z4:=sizeOf4
 v4:=zeroValue4
 t5:=underlying5
 a5:=isAgg5
 z5:=sizeOf5
 v5:=zeroValue5
 t9:=underlying9
 a9:=isAgg9
 z9:=sizeOf9
 v9:=zeroValue9
 t22:=underlying40
 a22:=isAgg40
 z22:=sizeOf40
 v22:=zeroValue40
 t23:=underlying40
 a23:=isAgg40
 z23:=sizeOf40
 v23:=zeroValue40
 t25:=underlying2
 a25:=isAgg2
 z25:=sizeOf2
 v25:=zeroValue2
 t32:=underlying182
 a32:=isAgg182
 z32:=sizeOf182
 v32:=zeroValue182
 t35:=underlying216
 a35:=isAgg216
 z35:=sizeOf216
 v35:=zeroValue216
 t36:=underlying217
 a36:=isAgg217
 z36:=sizeOf217
 v36:=zeroValue217
 t41:=underlying222
 a41:=isAgg222
 z41:=sizeOf222
 v41:=zeroValue222
 t44:=underlying225
 a44:=isAgg225
 z44:=sizeOf225
 v44:=zeroValue225
 t46:=underlying180
 a46:=isAgg180
 z46:=sizeOf180
 v46:=zeroValue180
 t53:=underlying240
 a53:=isAgg240
 z53:=sizeOf240
 v53:=zeroValue240
 t57:=underlying243
 a57:=isAgg243
 z57:=sizeOf243
 v57:=zeroValue243
 t63:=underlying253
 a63:=isAgg253
 z63:=sizeOf253
 v63:=zeroValue253
 t64:=underlying254
 a64:=isAgg254
 z64:=sizeOf254
 v64:=zeroValue254}
def Tryz.cloneA_ren:Go.Shelf.Ren:=⟨fun|5=>126|7=>152|n=>n,fun|23=>137|25=>2|3=>2|4=>4|20=>20|n=>n,fun|n=>n⟩
theorem Tryz.cloneA:Go.Proofs.SlLaysW.n5 prog Tryz.cloneA_ren:={
 mixed:=by kernel_rfl
 f5:=⟨Tryz.f126.name,by decide,func126.trans (congrArg some (by kernel_rfl))⟩
 f7:=func152.trans (congrArg some (by kernel_rfl))
 t4:=underlying4
 a4:=isAgg4
 z4:=sizeOf4
 v4:=zeroValue4
 t20:=underlying20
 a20:=isAgg20
 z20:=sizeOf20
 v20:=zeroValue20
 t23:=underlying137
 a23:=isAgg137
 z23:=sizeOf137
 v23:=zeroValue137}
def Tryz.copyA_ren:Go.Shelf.Ren:=⟨fun|5=>127|n=>n,fun|23=>137|24=>137|26=>2|27=>2|0=>0|4=>4|n=>n,fun|n=>n⟩
theorem Tryz.copyA:Go.Proofs.SlLaysX.n5 prog Tryz.copyA_ren:={
 mixed:=by kernel_rfl
 f5:=⟨Tryz.f127.name,by decide,func127.trans (congrArg some (by kernel_rfl))⟩
 t0:=underlying0
 a0:=isAgg0
 z0:=sizeOf0
 v0:=zeroValue0
 t4:=underlying4
 a4:=isAgg4
 z4:=sizeOf4
 v4:=zeroValue4
 t23:=underlying137
 a23:=isAgg137
 z23:=sizeOf137
 v23:=zeroValue137
 t24:=underlying137
 a24:=isAgg137
 z24:=sizeOf137
 v24:=zeroValue137
 a26:=isAgg2
 z26:=sizeOf2
 a27:=isAgg2
 z27:=sizeOf2}
open Go Go.RowKit Go.Deep Go.Maps Go.Sort
variable {w:World}{v:Value}{l:List Int}
def Cv(l:List Int):List Int:=l.mergeSort (fun x y=>decide (x<=y))
theorem Gx(l:List Int):(Cv l).length=l.length:=by simp[Cv]
theorem Rl(B:Nat)(v:Value)(l:List Int)(w:World)(h:Az w B v l)(hl:l.length<=100000):
 Calls prog 124 #[v] w fun e w'=>e= .returned (.tuple #[])/\Az w' B v (Cv l)/\w.grownBy w' v.ownBlock:=by
 rcases h.2 with⟨rfl,hn⟩|⟨g,cap,cur,rfl,hB,hb,h1,h2,h3,h4⟩
 ·have e0:l=[]:=List.eq_nil_of_length_eq_zero hn;subst e0;refine(AnyM.slices_Sort_int_none Tryz.sortA none 0 w).mono ?_;rintro e w' ⟨rfl,rfl⟩;have e0:Cv []=[]:=by simp[Cv]
  rw[e0];exact⟨rfl,h,⟨rfl,rfl,rfl,Nat.le_refl _,fun _ _ _=>rfl⟩⟩
 ·have hlt:g<w.heap.size:=(Array.getElem?_eq_some_iff.1 hb).1;refine(AnyM.slices_Sort_int Tryz.sortA g 0 cap l w (holds_of_blockI hb (by simpa using h4)) hlt (by omega)).mono ?_;rintro e w' ⟨rfl,n,os,rfl⟩;refine⟨rfl,?_,grownBy_sortedI _⟩;have:=ownsRow_sortedI (n:=n) (os:=os) (ts:=Cv l) (Gx l) hB hb h1 h2 h3;unfold Az;rw[Gx];exact this
theorem KU.sorted{w0 w':World}{c:Nat}{l':List Int}(h:KU w0 c w v l)(ho:Az w' (w0.heap.size+1+1+1) v l')(hg:w.grownBy w' v.ownBlock):KU w0 c w' v l':=by
 have hne:∀k,k<w0.heap.size+1+1+1->some k≠v.ownBlock:=fun k hk e=>by have:=(World.ownsRow.lt h.o k e.symm).1;omega
 exact⟨h.b.trans (below_grown hg h.b.size (fun j hj=>by have:=(World.ownsRow.lt h.o j hj).1;omega)),h.q.grown hg (hne _ (by omega)),h.p.grown hg (hne _ (by omega)),h.r.grown hg (hne _ (by omega)),ho⟩
theorem Az.low{B B':Nat}(h:Az w B v l)(hB:B'<=B):Az w B' v l:=by
 refine⟨h.1,?_⟩;rcases h.2 with hn|⟨g,cap,cur,hv,hb,rest⟩
 ·exact .inl hn
 ·exact .inr ⟨g,cap,cur,hv,by omega,rest⟩
theorem PM(w:World)(B c n:Nat)(ids ups:Nat->Int)(ob off:Nat)(nb:Nat->Nat)(kv:Nat->Value)(hN:DK w B c n ids ob off nb kv (BI ids ups n))(hr:Dq ids n)(h0:∀j,j<n->ids j≠ups 0)
 (hw:∀i,i<n->(Lit.int .i64 (ids i)).wf=true)(hn:n<=271)(i:Nat)(hi:i<n)(hc:Ha ids ups n i):
 Calls prog 83 #[.map (some c),.int .i64 (ids i)] w fun e w'=>∃v,e= .returned v/\Az w' w v (Cv ((FJ ids ups n n i).map ids))/\Below w w w':=by
 have hst:=fun(W:World) (a:Addr) (x y:Array Value) (m:Mode)=>run_store prog W a (.func (.func 123) x y) m rfl;have n1:Nw (w.alloc (.cells #[.map (some c)] 88)):=⟨⟩;have b1:Below w w n1:=Bd w _;have LK:=(hN.map.below b1).look (hw i hi);rw[Dz hr hi]at LK;simp only[Option.map_some]at LK;have hlen:(FJ ids ups n n i).length<=n:=Gv (Hv hr h0 hi hc) (fun x hx=>((En hr h0 hi).1 hx).1);have n2:No (.cells #[Nh w.heap.size] 172):=⟨⟩;have n3:No (.cells #[.slice none 0 0] 40):=⟨⟩;have W0:KU w c (((n1:World).alloc n3).alloc n2) (.slice none 0 0) []:=by
  refine⟨?_,?_,?_,?_,Az.nil _ _⟩
  ·exact(b1.alloc b1.size _).alloc (b1.alloc b1.size _).size _
  ·exact((Ag.new w _).alloc _).alloc _
  ·have:=(Ag.new n1 n3).alloc n2;simpa using this
  ·have:=Ag.new ((n1:World).alloc n3) n2;simpa using this
 have C1:=hid (XC w B c n ids ups ob off nb kv hN hr h0 hw hn n i [] (.slice none 0 0) _ hi (fun j m hj e=>Oc hc hj e) (by simp;omega) W0);unfold Nh at C1;simp only[List.nil_append]at C1;clear W0 hN h0 hw hr;go_enter func83,ntmps83
 go_wp2_with fail
 refine C1.out.mono ?_;rintro e w2 ⟨v2,rfl,h2⟩;have H2:=hid h2;have x1:_=some v2:=h2.p.c0 0 rfl;have C2:=hid (Rl _ v2 _ w2 h2.o (by rw[List.length_map];omega));clear h2 C1 LK;go_wp2_with fail
 refine C2.out.mono ?_;rintro e w3 ⟨rfl,o3,g3⟩;have H3:=hid (H2.out.sorted o3 g3);have x3:_=some v2:=H3.out.p.c0 0 rfl;clear o3 g3 x1 C2 H2;go_wp2;go_ret;exact⟨v2,rfl,H3.out.o.low (by omega),H3.out.b⟩
theorem Uq{n:Nat}{O:Nat->Ab}(h:Cl n O=true):((((Cv ((FJ (fun i=>(O i).id) (fun i=>(O i).up) n n 0).map (fun i=>(O i).id))).length:Nat):Int)==(n:Int))=Fb (fun i=>(O i).id) (fun i=>(O i).up) n:=by
 rw[Gx,List.length_map];obtain⟨h1,_⟩:=Cs h;have hp:=Xr (Bu h) (ups:=fun i=>(O i).up) (fun j hj=>by have:=Ew h j hj;have:=(CG h).2.2;omega) (by omega);rw[Bool.eq_iff_iff,<-hp];simp only[beq_iff_eq];omega
theorem Wj{n:Nat}{O:Nat->Ab}(h:Cl n O=true):∃L:Nat,(Cv ((FJ (fun i=>(O i).id) (fun i=>(O i).up) n n 0).map (fun i=>(O i).id))).length=L/\L<=271/\((L:Int)==(n:Int))=Fb (fun i=>(O i).id) (fun i=>(O i).up) n:=by
 refine⟨_,rfl,?_,Uq h⟩;rw[Gx,List.length_map];obtain⟨h1,h2,_⟩:=Cs h;have:=Gv (Hv (Bu h) (ups:=fun i=>(O i).up) (fun j hj=>by have:=Ew h j hj;have:=(CG h).2.2;omega) (f:=n) (i:=0) (by omega) Gg) (fun x hx=>((En (Bu h) (ups:=fun i=>(O i).up) (fun j hj=>by have:=Ew h j hj;have:=(CG h).2.2;omega) (by omega)).1 hx).1);omega
theorem Rf(a:Option Addr)(n cap:Nat)(O:Nat->Ab)(w:World)(hcap:n<=cap)(hO:Hq w a n O)(h2:Cl n O=true)(hw:∀i,i<n->(Lit.int .i64 (O i).id).wf=true/\(Lit.int .i64 (O i).up).wf=true):
 Calls prog 39 #[.slice a n cap] w fun e w'=>e= .returned (.bool (Iw n O&&Fb (fun i=>(O i).id) (fun i=>(O i).up) n))/\Below w w w':=by
 obtain⟨on1,on2,_,_⟩:=Cs h2;have HO:=hid hO;obtain⟨ob,off,rfl,_,_⟩:=hO (by omega);have HW:=hid hw;have H2:=hid h2;obtain⟨L,eL,hL,rL⟩:=Wj h2;have EL:=hid eL;have RL:=hid rL;clear eL rL;clear hO h2 hw;have C1:=hid (Jb ob off n cap O w on2 HO (Bu H2) HW);go_enter func39,ntmps39
 go_wp2_with fail
 refine C1.out.mono ?_;rintro e w1 ⟨c,nb,kv,rfl,hN,b1⟩;have HN:=hid hN;clear hN C1;have END:Hid (∀wr:World,Below w1 w1 wr->Calls prog 83 #[.map (some c),.int .i64 1] wr fun e w'=>∃a2 k2,e= .returned (.slice a2 L k2)/\Below wr wr w'):=hid (fun wr hb=>by
  have:=PM wr w c n (fun i=>(O i).id) (fun i=>(O i).up) ob off nb kv (HN.out.below hb) (Bu H2) (fun j hj=>by have:=Ew H2 j hj;have:=(CG H2).2.2;omega) (fun i hi=>(HW i hi).1) on2 0 (by omega) Gg;rw[(CG H2.out).1]at this;refine this.mono ?_;rintro e w' ⟨v,rfl,o,b⟩;obtain⟨a2,k2,rfl⟩:=Da o;rw[EL.out];exact⟨a2,k2,rfl,b⟩)
 have c1:(n:Int)<=(cap:Int):=by omega
 have c2:(1:Int)<=(n:Int):=by omega
 by_cases hok:cap=1
 ·obtain rfl:n=1:=by omega
  subst hok;go_wp2;go_loopw [12] (fun i wr=>i= .int .i64 0/\Below w1 w1 wr) (fun i _=>0)
  case atStart=>exact⟨rfl,Below.refl _ _⟩
  case round=>
   obtain⟨rfl,hB⟩:=hrel;go_wp2_with fail
   refine(END wr hB).mono ?_;rintro e w2 ⟨a2,k2,rfl,b2⟩;go_wp2;go_ret;refine⟨Ah ?_,Af b1 (Af hB b2)⟩;rw[<-RL.out];simp[Iw]
 ·go_wp2;go_loopw [12] (fun i wr=>∃q:Nat,q<=n-1/\i= .int .i64 q/\Hid (∀p,p<q->FK n O (O (p+1)).up=true)/\Below w1 w1 wr) (fun i _=>n-1-(intOf i).toNat)
  case atStart=>exact⟨0,Nat.zero_le _,rfl,hid (fun p hp=>by omega),Below.refl _ _⟩
  case round=>
   obtain⟨q,hq,rfl,HA,hB⟩:=hrel;by_cases hlt2:q<n-1
   ·obtain⟨_,_,ea,hlt0,hcc⟩:=(HO.out.below b1).below hB (by omega);cases ea;obtain⟨⟨q0,q1,q2,q3,q4,q5,q6,q7,q8,q9⟩,ht⟩:=hcc (q+1) (by omega);have ei:off+(q+1)*10=off+10+q*10:=(by omega);rw[ei]at q0 q1 q2 q3 q4 q5 q6 q7 q8 q9;have i2:(q:Int)<((n-1:Nat):Int):=(by omega);simp only[Aq.val,AI.val,AF.val]at q4 q6 q7 q9;have bC:Below wr wr (wr.alloc (.cells (O (q+1)) 47)):=Bd wr _;have BC:=Af hB bC;have N1:=hid (HN.out.below BC);have LK:=N1.out.map.look (x:=(O (q+1)).up) (HW (q+1) (by omega)).2;cases hf:Bi (fun i=>(O i).id) n (O (q+1)).up with
    |none=>
     have BO:Hid (FK n O (O (q+1)).up=false):=hid (by simp[FK,hf]);rw[hf]at LK;simp only[Option.map_none]at LK;clear hcc ht ei hf;go_wp2;go_ret;exact⟨Ah (by rw[Iw,GO hlt2 BO.out];rfl),Af b1 BC⟩
    |some u=>
     obtain⟨hu,_⟩:=AH hf;have BO:Hid (FK n O (O (q+1)).up=((O u).kind==3)):=hid (by simp[FK,hf]);rw[hf]at LK;simp only[Option.map_some]at LK;have k1:=(hcc u hu).1.c1;have k2:=(bC.cell (p:=⟨ob,off+u*10+1,none⟩) hlt0).trans k1;have n1:_=some (Value.pointer (some ⟨ob,off+u*10,none⟩)):=(N1.out.blk u hu).c0 0 rfl;clear hcc ht ei hf k1;cases c3:((O u).kind==3)with
     |false=>
      rw[c3]at BO;have c3':¬(O u).kind=3:=(by simpa using c3);go_wp2;go_ret;exact⟨Ah (by rw[Iw,GO hlt2 BO.out];rfl),Af b1 BC⟩
     |true=>
      rw[c3]at BO;have c3':(O u).kind=3:=(by simpa using c3);rw[c3']at k2;clear c3;go_wp2;refine⟨⟨q+1,by omega,by go_num,hid (fun p hp=>?_),BC⟩,by simp[intOf];omega⟩;by_cases e:p=q
      ·subst e;exact BO.out
      ·exact HA.out p (by omega)
   ·have e:q=n-1:=(by omega);subst e;go_wp2_with fail
    refine(END wr hB).mono ?_;rintro e w2 ⟨a2,k2,rfl,b2⟩;go_wp2;go_ret;refine⟨Ah ?_,Af b1 (Af hB b2)⟩;rw[Iw,Ek HA.out,Bool.true_and,<-RL.out]
theorem IB(k:AE)(w:World)(hk:k.at w)(hcap:k.on<=k.ok)(hw:∀i,i<k.on->(Lit.int .i64 (k.O i).id).wf=true/\(Lit.int .i64 (k.O i).up).wf=true):
 Calls prog 12 #[k.val] w fun e w'=>e= .returned (.bool (Bo k))/\Below w w w':=by
 have n1:No (.cells #[.slice k.ta k.tn k.tk,.slice k.oa k.on k.ok] 27):=⟨⟩;have hb0:=(Below.refl _ w).alloc nr n1;have A0:=Ag.new w n1;have T0:=hid (hk.below hb0);have HW:=hid hw;have HC:=hid hcap;unfold AE.val;obtain⟨x0,x1⟩:=A0.two;clear hk hw hcap;go_enter func12,ntmps12
 go_wp2_with fail
 refine(Oh _ _ _ k.T _ T0.out.1 T0.out.2.2.1).mono ?_;rintro e w1 ⟨rfl,hb1⟩;have A1:=A0.below hb1;have T1:=hid (T0.out.below hb1);have B1:=Af hb0 hb1;clear x0 x1 A0 T0 hb0 hb1;obtain⟨x0,x1⟩:=A1.two;cases t1:Br k.tn k.T with
 |false=>
  go_wp2;go_ret;exact⟨Ah (Gy t1).symm,B1⟩
 |true=>
 go_wp2_with fail
 refine(Ov _ _ _ k.O _ T1.out.2.1 T1.out.2.2.2).mono ?_;rintro e w2 ⟨rfl,hb2⟩;have A2:=A1.below hb2;have T2:=hid (T1.out.below hb2);have B2:=Af B1 hb2;clear x0 x1 A1 T1 B1 hb2;obtain⟨x0,x1⟩:=A2.two;cases t2:Cl k.on k.O with
 |false=>
  go_wp2;go_ret;exact⟨Ah (by simp[Bo,t2]),B2⟩
 |true=>
 have C3:=hid (OJ k w2 T2 HC t1 t2 (fun i hi=>(HW i hi).1));unfold AE.val at C3;go_wp2_with fail
 refine C3.out.mono ?_;rintro e w3 ⟨rfl,hb3⟩;have A3:=A2.below hb3;have T3:=hid (T2.out.below hb3);have B3:=Af B2 hb3;clear x0 x1 A2 T2 B2 hb3 C3;obtain⟨x0,x1⟩:=A3.two;cases t3:Gq k.tn k.T k.on k.O with
 |false=>
  go_wp2;go_ret;exact⟨Ah (by simp[Bo,t3]),B3⟩
 |true=>
 have C4:=hid (Rf k.oa k.on k.ok k.O w3 HC T3.out.2.2.2 t2 HW);have OK:Hid (Bo k=(Iw k.on k.O&&Fb (fun i=>(k.O i).id) (fun i=>(k.O i).up) k.on)):=hid (by simp[Bo,t1,t2,t3]);clear t1 t2 t3;go_wp2_with fail
 refine C4.out.mono ?_;rintro e w4 ⟨rfl,hb4⟩;have B4:=Af B3 hb4;rw[<-OK.out];clear x0 x1 A3 T3 B3 hb4 C4;go_wp2;go_ret;exact⟨rfl,B4⟩
variable {x:Int}{q:Nat}{k:AE}
def Jt(O:Nat->Ab)(x:Int)(q:Nat):List Int:=((List.range q).filter (fun j=>(O j).up==x)).map (fun i=>(O i).id)
theorem Zg{O:Nat->Ab}(h:(O q).up=x):Jt O x (q+1)=Jt O x q++[(O q).id]:=by
 simp[Jt,List.range_succ,h]
theorem aF{O:Nat->Ab}(h:(O q).up≠x):Jt O x (q+1)=Jt O x q:=by
 simp[Jt,List.range_succ,h]
theorem UM(O:Nat->Ab)(x:Int)(q:Nat):(Jt O x q).length<=q:=by
 unfold Jt;rw[List.length_map];exact Nat.le_trans (List.length_filter_le _ _) (by simp)
theorem Xf{O:Nat->Ab}{n u:Nat}:Jt O (O u).id n=BI (fun i=>(O i).id) (fun i=>(O i).up) n u:=rfl
theorem Np(k:AE)(x:Int)(w:World)(hk:k.at w)(hn:k.on<=271):
 Calls prog 121 #[k.val,.int .i64 x] w fun e w'=>∃v,e= .returned v/\Az w' w v (Jt k.O x k.on)/\Below w w w':=by
 have n1:No (.cells #[.slice k.ta k.tn k.tk,.slice k.oa k.on k.ok] 27):=⟨⟩;have hb0:=(Below.refl _ w).alloc nr n1;have A0:=Ag.new w n1;have bm:=hb0.alloc hb0.size (.cells #[] 2);have A1:=A0.alloc (.cells #[] 2);have O1:=Az.made (w.alloc n1) (w.heap.size+1) (by simp);have HT:=hid hk;unfold AE.val;clear hk;go_enter func121,ntmps121
 go_wp2;generalize hW:((w.alloc n1).alloc (.cells #[] 2))=W at *;have O2:Az W (w.heap.size+1) (.slice (some ⟨w.heap.size+1,0,none⟩) 0 0) []:=by simpa using O1
 clear hW hb0 A0 O1;go_loopw [5,6] (fun v i wr=>∃q:Nat,q<=k.on/\i= .int .i64 q/\Hid (Az wr (w.heap.size+1) v (Jt k.O x q))/\Ag wr w n1/\Below w w wr) (fun _ i _=>k.on-(intOf i).toNat)
 case atStart=>exact⟨0,Nat.zero_le _,rfl,hid O2,A1,bm⟩
 case round=>
  clear O2 A1 bm;obtain⟨q,hq,rfl,HO,A,hB⟩:=hrel;obtain⟨x0,x1⟩:=A.two;by_cases hlt:q<k.on
  ·obtain⟨b,off,ea,hlt0,hcc⟩:=HT.out.2.2.2.below hB (by omega);have q0:=(hcc q hlt).1.c0;have q2:=(hcc q hlt).1.c2;rw[ea]at x1;have i1:(q:Int)<(k.on:Int):=(by omega);clear hcc ea;by_cases e:(k.O q).up=x
   ·have e':((k.O q).up==x)=true:=(by simpa using e);have EQ:=hid (Zg e);have hl:=UM k.O x q;have n2:No (.cells #[.int .i64 (k.O q).id] 2):=⟨⟩;have B1:Below w w (wr.alloc n2):=hB.alloc hB.size _;have AA:=A.alloc n2;have OA:=hid (Az.alloc HO n2);have L1:=hid (Dw.one (w:=wr) (k.O q).id);have s1:w.heap.size+1<=(wr.alloc n2).heap.size:=(by have:=A.lt;simp;omega);have FIN:Hid (∀w3:World,(wr.alloc n2).grownBy w3 u5.ownBlock->Ag w3 w (.cells #[.slice k.ta k.tn k.tk,.slice k.oa k.on k.ok] 27)/\Below w w w3):=hid (fun w3 g3=>⟨AA.grown g3 (fun e=>by have:=(World.ownsRow.lt OA _ e.symm).1;omega),B1.trans (below_grown g3 B1.size (fun j hj=>by have:=(World.ownsRow.lt OA j hj).1;omega))⟩);clear e HO;go_wp2_with(refine Ec _ rfl _ _ rfl (w.heap.size+1) u5 (Jt k.O x q) rfl OA _ 1 1 [(k.O q).id] rfl rfl L1 (by omega) s1 ?_;intro a3 c3 w3 o3 g3 v3)
    rw[<-EQ.out]at o3;obtain⟨f1,f2⟩:=FIN.out w3 g3;exact⟨⟨q+1,by omega,by go_num,hid (by first|exact o3|simpa[EQ.out]using o3),f1,f2⟩,by simp[intOf];omega⟩
   ·have e':((k.O q).up==x)=false:=(by simpa using e);have EQ:=hid (aF e);clear e;go_wp2;exact⟨⟨q+1,by omega,by go_num,hid (by rw[EQ.out];exact HO.out),A,hB⟩,by simp[intOf];omega⟩
  ·have i1:¬(q:Int)<(k.on:Int):=(by omega);have e:q=k.on:=(by omega);have HO2:Hid (Az wr (w.heap.size+1) u5 (Jt k.O x k.on)):=hid (by rw[<-e];exact HO.out);clear HO e;go_wp2;go_ret;exact⟨u5,rfl,HO2.out.low (by omega),hB⟩
theorem Bs(h:Bo k=true):Br k.tn k.T=true/\Cl k.on k.O=true/\Gq k.tn k.T k.on k.O=true/\Iw k.on k.O=true/\Fb (fun i=>(k.O i).id) (fun i=>(k.O i).up) k.on=true:=by
 simp only[Bo,Bool.and_eq_true]at h;exact⟨h.1.1.1.1,h.1.1.1.2,h.1.1.2,h.1.2,h.2⟩
theorem Pr(h:Bo k=true){c:Nat}(hc:c<k.on)(h0:c≠0):∃u,Bi (fun i=>(k.O i).id) k.on (k.O c).up=some u:=by
 have hu:=Gh (Bs h).2.2.2.1 (c-1) (by omega);have e:c-1+1=c:=by omega
 simp only[e]at hu;unfold FK at hu;split at hu
 ·rename_i u hu';exact⟨u,hu'⟩
 ·cases hu

theorem Kw(L:List Int)(x:Int):(DJ L x).length<=L.length+1:=by
 unfold DJ;split
 ·omega
 ·simp;omega
theorem WL(L:List Int)(x:Int):0<(DJ L x).length:=by
 unfold DJ;split
 ·rename_i h;have:=(List.getElem?_eq_some_iff.1 h).1;omega
 ·simp;omega
theorem MK{L:List Int}{x y:Int}(h:y∈DJ L x):y∈L∨y=x:=by
 unfold DJ at h;split at h
 ·exact .inl h
 ·rw[List.mem_append,List.mem_append,List.mem_singleton]at h;rcases h with(h|h)|h
  ·exact .inl (List.mem_of_mem_take h)
  ·exact .inr h
  ·exact .inl (List.mem_of_mem_drop h)
theorem Jo{L:List Int}{x:Int}(h:L.Pairwise (· <·)):(DJ L x).Pairwise (· <·):=by
 unfold DJ;split
 ·exact h
 ·rename_i hx;have hlo:∀y∈L.take (putAt L x),y<x:=by
   intro y hy;obtain⟨j,hj,rfl⟩:=List.getElem_of_mem hy;have hj':j<putAt L x:=(by simp at hj;omega);have:=List.not_of_lt_findIdx hj';simp at this;simpa using this
  have hhi:∀y∈L.drop (putAt L x),x<y:=by
   intro y hy;obtain⟨j,hj,rfl⟩:=List.getElem_of_mem hy;rw[List.getElem_drop];have hlen:putAt L x<L.length:=(by simp at hj;omega);have h0:¬L[putAt L x]<x:=by
    have:=List.findIdx_getElem (xs:=L) (p:=fun y=> !decide (y<x)) (w:=hlen);unfold putAt;simpa using this
   have h1:L[putAt L x]≠x:=fun e=>hx (by rw[List.getElem?_eq_getElem hlen,e]);by_cases ej:j=0
   ·subst ej;simp;omega
   ·have:=List.pairwise_iff_getElem.1 h (putAt L x) (putAt L x+j) hlen (by simp at hj;omega) (by omega);omega
  rw[List.append_assoc,List.pairwise_append];refine⟨h.sublist (List.take_sublist _ _),?_,?_⟩
  ·rw[List.singleton_append,List.pairwise_cons];exact⟨hhi,h.sublist (List.drop_sublist _ _)⟩
  ·intro y hy z hz;have h1:=hlo y hy;rw[List.singleton_append,List.mem_cons]at hz;rcases hz with rfl|hz
   ·exact h1
   ·have:=hhi z hz;omega
theorem Va{L:List Int}{x y:Int}:y∈DJ L x↔y∈L∨y=x:=by
 refine⟨MK,fun h=>?_⟩;unfold DJ;split
 ·rename_i e;rcases h with h|rfl
  ·exact h
  ·exact List.mem_of_getElem? e
 ·rcases h with h|rfl
  ·rw[<-List.take_append_drop (putAt L x) L]at h;rcases List.mem_append.1 h with h|h
   ·exact List.mem_append_left _ (List.mem_append_left _ h)
   ·exact List.mem_append_right _ h
  ·simp
theorem NJ:∀{l m:List Int},l.Pairwise (· <·)->m.Pairwise (· <·)->(∀x,x∈l↔x∈m)->l=m
 |[],[],_,_,_=>rfl
 |[],b::m,_,_,h=>by have:=(h b).2 List.mem_cons_self;cases this
 |a::l,[],_,_,h=>by have:=(h a).1 List.mem_cons_self;cases this
 |a::l,b::m,h1,h2,h=>by
  obtain⟨a1,a2⟩:=List.pairwise_cons.1 h1;obtain⟨b1,b2⟩:=List.pairwise_cons.1 h2;have e:a=b:=by
   rcases List.mem_cons.1 ((h a).1 List.mem_cons_self)with e|e
   ·exact e
   ·rcases List.mem_cons.1 ((h b).2 List.mem_cons_self)with e'|e'
    ·exact e'.symm
    ·have:=a1 b e';have:=b1 a e;omega
  subst e;rw[NJ a2 b2 fun x=>?_];constructor
  ·intro hx;rcases List.mem_cons.1 ((h x).1 (List.mem_cons_of_mem _ hx))with e|e
   ·subst e;have:=a1 x hx;omega
   ·exact e
  ·intro hx;rcases List.mem_cons.1 ((h x).2 (List.mem_cons_of_mem _ hx))with e|e
   ·subst e;have:=b1 x hx;omega
   ·exact e
theorem KC{l:List Int}{x:Int}:x∈Cv l↔x∈l:=(List.mergeSort_perm l _).mem_iff
theorem TY{l:List Int}(h:l.Nodup):(Cv l).Pairwise (· <·):=by
 have h1:(Cv l).Pairwise (fun a b=>a<=b):=by
  have:=List.pairwise_mergeSort (le:=fun(x y:Int)=>decide (x<=y)) (fun a b c h1 h2=>by simp at *;omega) (fun a b=>by simp;omega) l;exact this.imp (fun h=>by simpa using h)
 have h2:(Cv l).Nodup:=(List.mergeSort_perm l _).nodup_iff.2 h;exact(h1.and h2).imp (fun{a b} ⟨h3,h4⟩=>by omega)
def Ed(L:List Int):List Int:=L.foldl DJ []
theorem Sk(L:List Int):(Ed L).Pairwise (· <·):=by
 unfold Ed;have:∀(M:List Int),M.Pairwise (· <·)->(L.foldl DJ M).Pairwise (· <·):=by
  induction L with
  |nil=>intro M h;exact h
  |cons a L ih=>intro M h;exact ih _ (Jo h)
 exact this [] List.Pairwise.nil
theorem Tl(L:List Int)(x:Int):x∈Ed L↔x∈L:=by
 unfold Ed;have:∀(M:List Int),x∈L.foldl DJ M↔x∈M∨x∈L:=by
  induction L with
  |nil=>intro M;simp
  |cons a L ih=>intro M;rw[List.foldl_cons,ih,Va,List.mem_cons];exact or_assoc
 rw[this []];simp
theorem Tv(L:List Int):(Ed L).length<=L.length:=by
 unfold Ed;have:∀(M:List Int),(L.foldl DJ M).length<=M.length+L.length:=by
  induction L with
  |nil=>intro M;simp
  |cons a L ih=>intro M;rw[List.foldl_cons];have:=ih (DJ M a);have:=Kw M a;simp only[List.length_cons];omega
 simpa using this []
section
variable {ids ups:Nat->Int}{n u:Nat}
structure UY(ids ups:Nat->Int)(n u t:Nat)(Q:List Nat):Prop where
 nodup:Q.Nodup
 head:Q[0]? =some u
 mem:∀j∈Q,j<n/\∃m,Bl ids ups n m j=some u
 closed:∀s a,s<t->Q[s]? =some a->∀c∈Dv ids ups n a,c∈Q
 origin:∀s c,0<s->Q[s]? =some c->∃r a,r<t/\Q[r]? =some a/\Jm ids ups n c=some a
theorem UY.start(hu:u<n):UY ids ups n u 0 [u]:=by
 refine⟨by simp,rfl,fun j hj=>?_,fun s a hs=>by omega,fun s c hs e=>?_⟩
 ·simp at hj;subst hj;exact⟨hu,0,rfl⟩
 ·cases s with
  |zero=>omega
  |succ s=>simp at e
theorem UY.step(hr:Dq ids n)(h0:∀j,j<n->ids j≠ups 0)(hc:Ha ids ups n u){t a:Nat}{Q:List Nat}(h:UY ids ups n u t Q)(ht:Q[t]? =some a):UY ids ups n u (t+1) (Q++Dv ids ups n a):=by
 have hta:t<Q.length:=(List.getElem?_eq_some_iff.1 ht).1;obtain⟨han,ma,hma⟩:=h.mem a (List.mem_of_getElem? ht);have kid:∀c,c∈Dv ids ups n a->c<n/\Jm ids ups n c=some a:=fun c hc=>(Fx hr h0 han).1 hc;have old:∀{s x},Q[s]? =some x->(Q++Dv ids ups n a)[s]? =some x:=fun{s x} e=>by
  rw[List.getElem?_append_left (List.getElem?_eq_some_iff.1 e).1];exact e
 refine⟨?_,old h.head,fun j hj=>?_,fun s b hs e c hcb=>?_,fun s c hs e=>?_⟩
 ·rw[List.nodup_append];refine⟨h.nodup,List.Nodup.sublist List.filter_sublist List.nodup_range,fun x hx y hy exy=>?_⟩;subst exy;obtain⟨_,px⟩:=kid x hy;obtain⟨s,hs,es⟩:=List.getElem_of_mem hx;by_cases s0:s=0
  ·subst s0;have:x=u:=(by have:=h.head;rw[List.getElem?_eq_getElem hs,es]at this;simpa using this);subst this;exact hc ma (by simp only[Bl,px,Option.bind_some];exact hma)
  ·obtain⟨r,b,hrt,hb,pb⟩:=h.origin s x (by omega) (by rw[List.getElem?_eq_getElem hs,es]);rw[px]at pb;have eab:a=b:=(by simpa using pb);subst eab;have hrl:=(List.getElem?_eq_some_iff.1 hb).1;have e1:=(List.getElem?_eq_some_iff.1 hb).2;have e2:=(List.getElem?_eq_some_iff.1 ht).2;have:=(List.getElem_inj (h₀:=hrl) (h₁:=hta) h.nodup).1 (e1.trans e2.symm);omega
 ·rcases List.mem_append.1 hj with hj|hj
  ·exact h.mem j hj
  ·obtain⟨h1,h2⟩:=kid j hj;exact⟨h1,ma+1,by simp only[Bl,h2,Option.bind_some];exact hma⟩
 ·by_cases est:s=t
  ·subst est;rw[old ht]at e;have:a=b:=(by simpa using e);subst this;exact List.mem_append_right _ hcb
  ·have hsl:s<Q.length:=(by omega);rw[List.getElem?_append_left hsl]at e;exact List.mem_append_left _ (h.closed s b (by omega) e c hcb)
 ·by_cases hsl:s<Q.length
  ·rw[List.getElem?_append_left hsl]at e;obtain⟨r,b,h1,h2,h3⟩:=h.origin s c hs e;exact⟨r,b,by omega,old h2,h3⟩
  ·rw[List.getElem?_append_right (by omega)]at e;exact⟨t,a,by omega,old ht,(kid c (List.mem_of_getElem? e)).2⟩
theorem UY.len{t:Nat}{Q:List Nat}(h:UY ids ups n u t Q):Q.length<=n:=Gv h.nodup (fun x hx=>(h.mem x hx).1)
theorem UY.all(hr:Dq ids n)(h0:∀j,j<n->ids j≠ups 0){Q:List Nat}(h:UY ids ups n u Q.length Q)(j:Nat):j∈Q↔j<n/\∃m,Bl ids ups n m j=some u:=by
 refine⟨h.mem j,?_⟩;rintro⟨hj,m,e⟩;induction m generalizing j with
 |zero=>
  simp only[Bl,Option.some.injEq]at e;subst e;exact List.mem_of_getElem? h.head
 |succ m ih=>
  simp only[Bl]at e;cases ep:Jm ids ups n j with
  |none=>simp[ep]at e
  |some p=>
   simp only[ep,Option.bind_some]at e;have hp:=ih p (Nf ep) e;obtain⟨s,hs,es⟩:=List.getElem_of_mem hp;exact h.closed s p hs (by rw[List.getElem?_eq_getElem hs,es]) j ((Fx hr h0 (Nf ep)).2 ⟨hj,ep⟩)
theorem Zb(hr:Dq ids n)(h0:∀j,j<n->ids j≠ups 0)(hu:u<n)(hc:Ha ids ups n u){Q:List Nat}(h:UY ids ups n u Q.length Q):Ed (Q.map ids)=Cv ((FJ ids ups n n u).map ids):=by
 have inj:∀{l:List Nat},l.Nodup->(∀x∈l,x<n)->(l.map ids).Nodup:=fun{l} hl hx=>by
  rw[List.Nodup,List.pairwise_map];refine List.Pairwise.imp_of_mem ?_ hl;intro a b ha hb hab e;exact hab (hr.inj (hx a ha) (hx b hb) e)
 refine NJ (Sk _) (TY (inj (Hv hr h0 hu hc) (fun x hx=>((En hr h0 hu).1 hx).1))) fun x=>?_;rw[Tl,KC,List.mem_map,List.mem_map];constructor
 ·rintro⟨j,hj,rfl⟩;obtain⟨h1,m,h2⟩:=h.mem j hj;exact⟨j,(En hr h0 hu).2 ⟨h1,m,Oc hc h1 h2,h2⟩,rfl⟩
 ·rintro⟨j,hj,rfl⟩;obtain⟨h1,m,_,h2⟩:=(En hr h0 hu).1 hj;exact⟨j,(h.all hr h0 j).2 ⟨h1,m,h2⟩,rfl⟩
end
open Go.BigFrame
theorem Ul{ops:Array Oper}{o:Oper}{a:Act}{w:World}{K:Act->World->Prop}{Q:Exit->Act->World->Prop}{E:Prop}(hgd:o.guard=none)(f:Nat)(x y:Operand)(ats:Array TypeId)
 (ho:o.op= .call {callee:= .value (.func f),args:=#[x,y],argTypes:=ats})(eg:∀args w,(callFunc f args).run prog w= .ok (.enter f args) w)(v0 v1:Value)(hv:a.eval x=v0)(hv1:a.eval y=v1)
 (R:Value->World->Prop)(hc:Calls prog f #[v0,v1] w fun e w'=>∃v,e= .returned v/\R v w')(h:∀v w',R v w'->K (a.put o.dst v) w'):
 if Region.wanted o (yielded ops a.tmps)=true then Oper.wp prog o a w K Q else E:=by
 have hw:Region.wanted o (yielded ops a.tmps)=true:=by simp[Region.wanted,hgd]
 rw[if_pos hw];have e:(execOp a.eval o).run prog w= .ok (.enter f #[v0,v1]) w:=by
  unfold execOp;simp only[ho,resolve,invoke,Sem.run_bind,List.map_toArray,List.map_cons,List.map_nil,hv,hv1];simp[go_sem,eg,Act.eval]
 unfold Oper.wp;rw[e,Oper.upon_enter];exact hc.mono fun e w' ⟨v,he,hr⟩=>by subst he;exact h v w' hr
theorem BH.setMade{w:World}{B g ca:Nat}{vo:Value}{lt:List Ae}{lo:List Ab}(h:BH w B (.slice g lt.length ca) vo lt lo){t:Nat}{m:Int}(ht:t<lt.length){X:Ae}(hX:X=lt[t]):
 BH (w.setCell ⟨g,t*7+6,none⟩ (.int .i64 m)) B (.slice g lt.length ca) vo (lt.set t ⟨X.id,X.b1,X.c1,X.b2,X.c2,X.own,m⟩) lo/\(∃cur,Ag w g (.cells cur 42))/\B<=g:=by
 have hn:=h.tn _ (List.getElem_mem ht);have hc:=h.tc _ (List.getElem_mem ht);rw[<-hX]at hn hc;obtain⟨k1,hcur,hg⟩:=h.setT (x:=⟨X.id,X.b1,X.c1,X.b2,X.c2,X.own,m⟩) (u:= .int .i64 m) ht (i:=6) (by omega) (by rw[<-hX];rfl) hn hc;have el:(lt.set t (⟨X.id,X.b1,X.c1,X.b2,X.c2,X.own,m⟩:Ae)).length=lt.length:=by simp
 rw[el]at k1;exact⟨k1,hcur,hg⟩
def Au(X:Ae):Int:=1000*X.id+X.made+1
theorem TX(lt:List Ae)(lo:List Ab)(g ca:Nat)(oa:Option Addr)(co B:Nat)(w:World)(st:BH w B (.slice g lt.length ca) (.slice oa lo.length co) lt lo)(hB:B<=w.heap.size)(t:Nat)(ht:t<lt.length)(X:Ae)(hX:X=lt[t])(xs:X.small)(s:Al)(hk:s.kind=1)(hi:1<=X.id/\X.id<=9)(hm:0<=X.made/\X.made<=30)(ho:X.own.n<=10):
 Calls prog 78 #[.agg #[.slice g lt.length ca,.slice oa lo.length co],.int .i64 t,.agg s] w fun e w'=>∃(x:Ae) (c:Int) (tx:ByteArray),e= .returned (.tuple #[.agg #[.slice g lt.length ca,.slice oa lo.length co],.int .i64 c,.string tx])/\BH w' B (.slice g lt.length ca) (.slice oa lo.length co) (lt.set t x) lo/\Below B w w'/\((c=5/\(X.made=30∨X.own.n=10)/\x=X/\tx=⟨#[]⟩)∨(c=0/\¬(X.made=30∨X.own.n=10)/\tx=⟨(Dd (Au X).toNat).toArray⟩/\∃(a:Option Addr) (cc:Nat),x=⟨X.id,X.b1,X.c1,X.b2,X.c2,⟨a,(DJ ((List.range X.own.n).map X.own.h) (Au X)).length,cc,AO (DJ ((List.range X.own.n).map X.own.h) (Au X))⟩,X.made+1⟩)):=by
 obtain⟨th,kd,id_,to_,cat,dat,sb1,sc1,sb2,sc2⟩:=s;simp only at hk ⊢;subst hk;have XN:Hid (X.new B w/\(X.own.n<=X.own.k/\X.own.k<=maxLen)):=hid (by rw[hX];exact⟨st.tn _ (List.getElem_mem ht),st.tc _ (List.getElem_mem ht)⟩);have XA:Hid (X.at w):=hid XN.out.1.at;have on1:X.own.n<=1048576:=xs.2.2;obtain⟨CW,gl⟩:=st.jJ ht;rw[<-hX]at CW;have n10:No (.cells #[.slice g lt.length ca,.slice oa lo.length co] 27):=⟨⟩;have n11:No (.cells #[th,.int .i64 1,id_,to_,cat,.string dat,sb1,sc1,sb2,sc2] 32):=⟨⟩;have n7:Nw ((w.alloc n10).alloc n11):=⟨⟩;have n9:No (.cells #[.slice none 0 0,.slice none 0 0] 27):=⟨⟩;have b3:Below w w ((n7:World).alloc n9):=((Bd w _).alloc (by simp) _).alloc (by simp;omega) _;have CC:=CW.below gl b3;have q0:((n7:World).alloc n9).cell? ⟨g,t*7,none⟩=some (.int .i64 X.id):=CC.c0;have q1:((n7:World).alloc n9).cell? ⟨g,t*7+1,none⟩=some (.int .i64 X.b1):=CC.c1;have q2:((n7:World).alloc n9).cell? ⟨g,t*7+2,none⟩=some (.slice X.c1.a X.c1.n X.c1.k):=CC.c2;have q3:((n7:World).alloc n9).cell? ⟨g,t*7+3,none⟩=some (.int .i64 X.b2):=CC.c3;have q4:((n7:World).alloc n9).cell? ⟨g,t*7+4,none⟩=some (.slice X.c2.a X.c2.n X.c2.k):=CC.c4;have q5:((n7:World).alloc n9).cell? ⟨g,t*7+5,none⟩=some (.slice X.own.a X.own.n X.own.k):=CC.c5;have q6:((n7:World).alloc n9).cell? ⟨g,t*7+6,none⟩=some (.int .i64 X.made):=CC.c6;have n8:No (.cells X 42):=⟨⟩;have b0:Below w w (((n7:World).alloc n9).alloc n8):=(((Bd w _).alloc (by simp) _).alloc (by simp;omega) _).alloc (by simp;omega) _;have A0:Ag (((n7:World).alloc n9).alloc n8) w n10:=(((Ag.new w _).alloc _).alloc _).alloc _;have P0:Ag (((n7:World).alloc n9).alloc n8) (w.heap.size+1) n11:=by have:=((Ag.new (w.alloc n10) n11).alloc n9).alloc n8;simpa using this
 have R0:Ag (((n7:World).alloc n9).alloc n8) (w.heap.size+1+1) n9:=by have:=(Ag.new n7 n9).alloc n8;simpa using this
 have X0:Ag (((n7:World).alloc n9).alloc n8) (w.heap.size+1+1+1) n8:=by have:=Ag.new ((n7:World).alloc n9) n8;simpa using this
 have HS:=hid (st.below b0);have HB:=hid b0;have ST:=hid st;have HA:=hid A0;have HP:=hid P0;have HR:=hid R0;have HX:=hid X0;have EX:=hid hX;have i0:(0:Int)<=(t:Int):=by omega
 have i1:(t:Int)<(lt.length:Int):=by omega
 have w1_:IntKind.i64.wrap (1000*X.id)=1000*X.id:=by rw[IntKind.wrap_i64];omega
 have w2_:IntKind.i64.wrap (1000*X.id+X.made)=1000*X.id+X.made:=by rw[IntKind.wrap_i64];omega
 have w3_:IntKind.i64.wrap (1000*X.id+X.made+1)=1000*X.id+X.made+1:=by rw[IntKind.wrap_i64];omega
 have w4_:IntKind.i64.wrap (X.made+1)=X.made+1:=by rw[IntKind.wrap_i64];omega
 obtain⟨x0,x1⟩:=HA.out.two;obtain⟨s0,s1,s2,s3,s4,s5,s6,s7,s8,s9⟩:=HP.out.jE;obtain⟨y0,y1,y2,y3,y4,y5,y6⟩:=HX.out.seven;obtain⟨r0,r1⟩:=HR.out.two;have rf:=HR.out.jC;clear CC CW b3 b0 A0 P0 R0 X0 hX st;by_cases hf:X.made=30∨X.own.n=10
 ·have HF:=hid hf;have NB:Hid (Below w w (((n7:World).alloc n10).alloc n8)):=hid ((((Bd w _).alloc (by simp) _).alloc (by simp;omega) _).alloc (by simp;omega) _);have NOF:Hid (BH (((n7:World).alloc n10).alloc n8) B (.slice g lt.length ca) (.slice oa lo.length co) (lt.set t X) lo):=hid (by
   have e:=Fh ht;rw[<-EX.out]at e;rw[e];exact ST.out.below NB)
  have NR:Hid (Ag (((n7:World).alloc n10).alloc n8) (w.heap.size+1+1) n10):=hid (by have:=(Ag.new n7 n10).alloc n8;simpa using this);by_cases h3:X.made=30
  ·have h3':(X.made==30)=true:=(by simpa using h3);have h3'':decide (X.made=30)=true:=decide_eq_true h3;clear hf h3;go_enter func78,ntmps78
   go_wp2;exact bodyPost_ret (Ak _ _ (w.heap.size+1+1) 6 _ _ _ _ Tryz.results78 NR rfl rfl rfl) rfl ⟨X,5,_,rfl,NOF,NB.out.mono hB,.inl ⟨rfl,HF,rfl,rfl⟩⟩
  ·have h4:X.own.n=10:=hf.resolve_left h3;have h3':(X.made==30)=false:=(by simpa using h3);have h3'':decide (X.made=30)=false:=decide_eq_false h3;have h4':(X.own.n:Int)=10:=(by omega);have H4:=hid h4;clear hf h3 h4;go_enter func78,ntmps78
   go_wp2;exact bodyPost_ret (Ak _ _ (w.heap.size+1+1) 6 _ _ _ _ Tryz.results78 NR rfl rfl rfl) rfl ⟨X,5,_,rfl,NOF,NB.out.mono hB,.inl ⟨rfl,HF,rfl,rfl⟩⟩
 ·have h3:¬X.made=30:=fun h=>hf (.inl h);have h4:¬X.own.n=10:=fun h=>hf (.inr h);have h3':(X.made==30)=false:=by simpa using h3
  have h3'':decide (X.made=30)=false:=decide_eq_false h3;have h4':¬(X.own.n:Int)=10:=by omega
  have HF:=hid hf;have KB:=hid HS.out;have CC:=(KB.out.jJ ht).1;have c0:=CC.c0;have c1:=CC.c1;have c2:=CC.c2;have c3:=CC.c3;have c4:=CC.c4;have c5:=CC.c5;have c6:=CC.c6;have GF:=hid (KB.out.setMade (m:=X.made+1) ht EX);have gf:=GF.out.2.1.choose_spec.jC;have ng1:¬g=w.heap.size:=by omega
  have ng2:¬g=w.heap.size+1:=by omega
  have ng3:¬g=w.heap.size+1+1:=by omega
  have ng4:¬g=w.heap.size+1+1+1:=by omega
  clear hf CC h3 h4;go_enter func78,ntmps78
  go_wp2_with fail
  have A7:=hid (HA.out.other (Q:=g) ng1 (i:=t*7+6) (.int .i64 (X.made+1)));have P7:=hid (HP.out.other (Q:=g) ng2 (i:=t*7+6) (.int .i64 (X.made+1)));have R7:=hid (HR.out.other (Q:=g) ng3 (i:=t*7+6) (.int .i64 (X.made+1)));have X7:=hid (HX.out.other (Q:=g) ng4 (i:=t*7+6) (.int .i64 (X.made+1)));have n12:No (.cells X 42):=⟨⟩;have L7:Hid (Below B w ((((n7:World).alloc n9).alloc n12).setCell ⟨g,t*7+6,none⟩ (.int .i64 (X.made+1)))):=hid ((HB.out.mono hB).setCell (by dsimp only;exact GF.out.2.2) _);have S7:Hid (w.heap.size<=((((n7:World).alloc n9).alloc n12).setCell ⟨g,t*7+6,none⟩ (.int .i64 (X.made+1))).heap.size):=hid (by rw[nblk_setCell];exact HB.out.size);have XI:Hid (X.own.at ((((n7:World).alloc n9).alloc n12).setCell ⟨g,t*7+6,none⟩ (.int .i64 (X.made+1)))):=hid (((XN.out.1.keeps (CS.of_below HB).l).keeps (As (i:=t*7+6) GF.out.2.1.choose_spec (by decide) (.int .i64 (X.made+1)))).at.2.2);have K7:=hid GF.out.1;have gB:=GF.out.2.2;clear gf GF KB HA HP HR HX HS c0 c1 c2 c3 c4 c5 c6 x0 x1 s0 s1 s2 s3 s4 s5 s6 s7 s8 s9 r0 r1 rf y0 y1 y2 y3 y4 y5 y6 q0 q1 q2 q3 q4 q5 q6 HB;generalize (((n7:World).alloc n9).alloc n12).setCell ⟨g,t*7+6,none⟩ (.int .i64 (X.made+1))=W7 at *;obtain⟨LS,eLS⟩:∃l,l=lt.set t (⟨X.id,X.b1,X.c1,X.b2,X.c2,X.own,X.made+1⟩:Ae):=⟨_,rfl⟩;rw[<-eLS]at K7;have el1:LS.length=lt.length:=by rw[eLS];simp
  have ht':t<LS.length:=by rw[el1];exact ht
  have EL:Hid ((⟨X.id,X.b1,X.c1,X.b2,X.c2,X.own,X.made+1⟩:Ae)=LS[t]/\∀y,LS.set t y=lt.set t y):=hid ⟨by simp only[eLS,List.getElem_set_self],fun y=>by rw[eLS,List.set_set]⟩;rw[<-el1]at K7;clear eLS;have BX:Hid (∀W,Below W7 W7 W->Ag W w (.cells #[.slice g lt.length ca,.slice oa lo.length co] 27)/\Ag W (w.heap.size+1) n11/\Ag W (w.heap.size+1+1) n9/\Ag W (w.heap.size+1+1+1) (.cells X 42)/\BH W B (.slice g LS.length ca) (.slice oa lo.length co) LS lo):=hid (fun W hW=>⟨A7.out.below hW,P7.out.below hW,R7.out.below hW,X7.out.below hW,K7.out.below hW⟩);have LB:Hid (∀W,Below W7 W7 W->Below B w W):=hid (fun W hW=>L7.out.trans (hW.mono (Nat.le_trans hB S7)));have V0:=hid (Below.refl W7 W7);have D0:=hid (Ay V0);have IA:Hid (∀W,Below W7 W7 W->X.own.at W):=hid (fun W hW=>XI.out.below hW);have EG:Hid (∀args w,(callFunc 112 args).run prog w= .ok (.enter 112 args) w):=hid (enters_of func112 (by kernel_rfl) rfl);obtain⟨N,eN⟩:∃l,l=DJ ((List.range X.own.n).map X.own.h) (Au X):=⟨_,rfl⟩;have PL:Hid (N.length<=1048576):=hid (by
   have h1:=Kw ((List.range X.own.n).map X.own.h) (Au X);have h2:((List.range X.own.n).map X.own.h).length=X.own.n:=(by simp);rw[eN];omega)
  have CP:Hid (Calls prog 112 #[X.own,.int .i64 (1000*X.id+X.made+1)] W7.drew fun e w'=>∃v,e= .returned v/\(∃va vc,v= .slice va N.length vc/\Az w' W7.drew.heap.size (.slice va N.length vc) N/\Below W7.drew.heap.size W7.drew w')):=hid ((PR X.own (1000*X.id+X.made+1) W7.drew (IA _ D0) on1 XN.out.2).mono fun _ _ ⟨va,vc,e1,h1,h2⟩=>⟨_,e1,va,vc,by rw[eN];rfl,by rw[eN];exact h1,h2⟩);have EN:=hid eN;clear eN;clear A7 P7 R7 X7 XI L7;obtain⟨x0,x1⟩:=(BX _ D0).1.two;obtain⟨s0,s1,s2,s3,s4,s5,s6,s7,s8,s9⟩:=(BX _ D0).2.1.jE;obtain⟨y0,y1,y2,y3,y4,y5,y6⟩:=(BX _ D0).2.2.2.1.seven;go_region_law(first
   |(refine Ul (by rfl) 112 _ _ _ (by rfl) EG _ _ (by rfl) (by rfl) _ CP ?_;rintro v w8 ⟨va,vc,rfl,o8,b8⟩;have V8:=hid (Af D0 b8);have O8:=hid o8;obtain⟨m0,m1⟩:=(BX _ V8).1.two;obtain⟨n0,n1,n2,n3,n4,n5,n6⟩:=(BX _ V8).2.2.2.1.seven;have KB:=hid (BX.out _ V8).2.2.2.2;have CC:=(KB.out.jJ ht').1;rw[<-EL.out.1]at CC;have ND:Hid (AI.new B w8 ⟨va,N.length,vc,AO N⟩):=hid ((O8.out.newL PL).low (Nat.le_trans hB (Nat.le_trans S7 D0.out.size)));have CQ:=hid (Dl O8);have c5:=CC.c5;have GF:=hid (KB.out.setOwn (d:=⟨va,N.length,vc,AO N⟩) ht' EL.out.1 ND CQ);have gf:=GF.out.2.1.choose_spec.jC;clear o8 b8 CC))
  all_goals(
   have ng1':g≠w.heap.size:=ng1;have A8:=hid ((BX _ V8).1.other (Q:=g) ng1 (i:=t*7+5) (.slice va N.length vc));have R8:=hid ((BX _ V8).2.2.1.other (Q:=g) ng3 (i:=t*7+5) (.slice va N.length vc));have L8:Hid (Below B w (w8.setCell ⟨g,t*7+5,none⟩ (.slice va N.length vc))):=hid ((LB _ V8).setCell (by dsimp only;exact gB) _);have S8:Hid (w.heap.size<=(w8.setCell ⟨g,t*7+5,none⟩ (.slice va N.length vc)).heap.size):=hid (by rw[nblk_setCell];exact Nat.le_trans S7 V8.out.size);have K8:=hid GF.out.1;clear GF gf c5 KB ND CQ m0 m1 n0 n1 n2 n3 n4 n5 n6 x0 x1 s0 s1 s2 s3 s4 s5 s6 s7 s8 s9 y0 y1 y2 y3 y4 y5 y6;generalize w8.setCell ⟨g,t*7+5,none⟩ (.slice va N.length vc)=W8 at *;have D8:=hid (Ay (Below.refl W8 W8));have BY:Hid (∀W,Below W8 W8 W->Ag W w (.cells #[.slice g lt.length ca,.slice oa lo.length co] 27)/\Ag W (w.heap.size+1+1) n9):=hid (fun W hW=>⟨A8.out.below hW,R8.out.below hW⟩);obtain⟨x0,x1⟩:=(BY _ D8).1.two;obtain⟨r0,r1⟩:=(BY _ D8).2.two;have rf:=(BY _ D8).2.jC;have EG9:Hid (∀args w,(callFunc 33 args).run prog w= .ok (.enter 33 args) w):=hid (enters_of func33 (by kernel_rfl) rfl);have CP9:Hid (Calls prog 33 #[.int .i64 (1000*X.id+X.made+1)] W8.drew fun e w'=>∃v,e= .returned v/\(v= .string ⟨(Dd (Au X).toNat).toArray⟩/\Below W8.drew.heap.size W8.drew w')):=hid (by
    have e:(((Au X).toNat:Nat):Int)=1000*X.id+X.made+1:=(by unfold Au;omega);rw[<-e];exact(KG _ _ (by unfold Au;omega)).mono fun _ _ ⟨e1,h1⟩=>⟨_,e1,rfl,h1⟩)
   go_wp2_with fail
   go_region_law(first
    |(refine Df (by rfl) 33 _ _ (by rfl) EG9 _ (by rfl) _ CP9 ?_;rintro v w9 ⟨rfl,b9⟩;have V9:=hid (Af D8 b9);obtain⟨m0,m1⟩:=(BY _ V9).1.two;obtain⟨z0,z1⟩:=(BY _ V9).2.two;have zf:=(BY _ V9).2.jC;clear b9))
   all_goals(
    go_wp2;refine bodyPost_ret (Ak _ _ (w.heap.size+1+1) 6 _ _ _ _ Tryz.results78 (((BY _ V9).2.jB (i:=0) _).jB (i:=1) _) rfl rfl rfl) rfl ⟨_,0,_,rfl,?_,?_,.inr ⟨rfl,HF,rfl,va,vc,by rw[<-EN.out]⟩⟩
    ·have k9:=((K8.out.below V9).set (BY _ V9).2 (.inl rfl) (i:=0) (.slice g lt.length ca)).set ((BY _ V9).2.jB (i:=0) _) (.inl rfl) (i:=1) (.slice oa lo.length co);rw[EL.out.2,el1]at k9;exact k9
    ·exact(((L8.out.trans (V9.out.mono (Nat.le_trans hB S8))).setCell (by dsimp only;omega) _).setCell (by dsimp only;omega) _)))
end Go.Proofs.YtbdagpckhfcneaaGreatDoor
