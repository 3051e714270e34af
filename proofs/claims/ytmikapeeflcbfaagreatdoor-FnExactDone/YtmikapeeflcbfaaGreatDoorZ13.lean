import Derived.Test.YtmikapeeflcbfaaGreatDoorProg
import Derived.Shelf.SlIterI.Nil
import Derived.Shelf.SortM.Plain
import Derived.Shelf.SortM.SortNone
import Derived.Ground.GgzProg
import Derived.Ground.SlgmProg
import Derived.Ground.SlmcProg
import Derived.Ground.SlmpProg
import Derived.Shelf.SlMaps.Clone
import Derived.Shelf.SlMaps.Copy
import Derived.Test.YtmikapeeflcbfaaGreatDoorZ6
import Derived.Sort.OwnSortedInts
import Derived.Test.YtmikapeeflcbfaaGreatDoorZ11
import Derived.Test.YtmikapeeflcbfaaGreatDoorZ4
import Derived.Test.YtmikapeeflcbfaaGreatDoorKB10
set_option maxRecDepth 100000
set_option maxHeartbeats 4000000
namespace Go.Proofs.YtmikapeeflcbfaaGreatDoor
open Go.Shelf Go.Proofs.Tryz
def Tryz.keysA_ren:Go.Shelf.Ren:=⟨fun|7=>209|10=>222|n=>n,fun|23=>184|26=>2|3=>2|28=>222|0=>0|27=>221|33=>186|4=>4|n=>n,fun|n=>n⟩
theorem Tryz.keysA:Go.Proofs.SlLaysZI.n7 prog Tryz.keysA_ren:={
 mixed:=by kernel_rfl
 f7:=⟨Tryz.f209.name,by decide,func209.trans (congrArg some (by kernel_rfl))⟩
 f10:=⟨Tryz.f222.name,by decide,func222.trans (congrArg some (by kernel_rfl))⟩
 t0:=underlying0
 a0:=isAgg0
 z0:=sizeOf0
 v0:=zeroValue0
 t4:=underlying4
 a4:=isAgg4
 z4:=sizeOf4
 v4:=zeroValue4
 t23:=underlying184
 a23:=isAgg184
 z23:=sizeOf184
 v23:=zeroValue184
 t26:=underlying2
 a26:=isAgg2
 z26:=sizeOf2
 v26:=zeroValue2
 t27:=underlying221
 a27:=isAgg221
 z27:=sizeOf221
 v27:=zeroValue221
 t28:=underlying222
 a28:=isAgg222
 z28:=sizeOf222
 v28:=zeroValue222
 t33:=underlying186
 a33:=isAgg186
 z33:=sizeOf186
 v33:=zeroValue186}
def Tryz.sortedA_ren:Go.Shelf.Ren:=⟨fun|6=>208|8=>221|9=>157|11=>228|13=>162|12=>169|23=>179|24=>180|14=>188|15=>189|16=>190|17=>191|18=>192|19=>193|20=>194|21=>195|22=>196|25=>212|26=>202|27=>203|28=>213|29=>214|30=>163|31=>225|n=>n,fun|26=>2|28=>222|24=>76|0=>0|3=>3|37=>219|48=>236|50=>238|4=>4|40=>229|39=>228|45=>233|5=>5|9=>9|51=>261|55=>265|57=>280|58=>281|33=>186|n=>n,fun|n=>n⟩
theorem Tryz.sortedA:Go.Proofs.SlLaysZI.n6 prog Tryz.sortedA_ren:={
 mixed:=by kernel_rfl
 f6:=⟨Tryz.f208.name,by decide,func208.trans (congrArg some (by kernel_rfl))⟩
 f8:=⟨Tryz.f221.name,by decide,func221.trans (congrArg some (by kernel_rfl))⟩
 f11:=⟨Tryz.f228.name,by decide,func228.trans (congrArg some (by kernel_rfl))⟩
 t0:=underlying0
 a0:=isAgg0
 z0:=sizeOf0
 v0:=zeroValue0
 t24:=underlying76
 a24:=isAgg76
 z24:=sizeOf76
 v24:=zeroValue76
 t26:=underlying2
 a26:=isAgg2
 z26:=sizeOf2
 v26:=zeroValue2
 t28:=underlying222
 a28:=isAgg222
 z28:=sizeOf222
 v28:=zeroValue222
 i26:=by kernel_rfl}
def Tryz.sortA_ren:Go.Shelf.Ren:=⟨fun|5=>157|8=>162|7=>169|19=>179|20=>180|10=>188|11=>189|12=>190|13=>191|14=>192|15=>193|16=>194|17=>195|18=>196|30=>212|31=>202|32=>203|33=>213|34=>214|35=>163|40=>225|n=>n,fun|23=>76|25=>2|3=>3|32=>219|22=>76|0=>0|44=>236|46=>238|4=>4|36=>229|35=>228|41=>233|5=>5|9=>9|53=>261|57=>265|63=>280|64=>281|n=>n,fun|n=>n⟩
theorem Tryz.sortA:Go.Proofs.SlLaysM.n5 prog Tryz.sortA_ren:={
 mixed:=by kernel_rfl
 f5:=⟨Tryz.f157.name,by decide,func157.trans (congrArg some (by kernel_rfl))⟩
 f7:=⟨Tryz.f169.name,by decide,func169.trans (congrArg some (by kernel_rfl))⟩
 f8:=func162.trans (congrArg some (by kernel_rfl))
 f10:=⟨Tryz.f188.name,by decide,func188.trans (congrArg some (by kernel_rfl))⟩
 f11:=⟨Tryz.f189.name,by decide,func189.trans (congrArg some (by kernel_rfl))⟩
 f12:=⟨Tryz.f190.name,by decide,func190.trans (congrArg some (by kernel_rfl))⟩
 f13:=⟨Tryz.f191.name,by decide,func191.trans (congrArg some (by kernel_rfl))⟩
 f14:=⟨Tryz.f192.name,by decide,func192.trans (congrArg some (by kernel_rfl))⟩
 f15:=⟨Tryz.f193.name,by decide,func193.trans (congrArg some (by kernel_rfl))⟩
 f16:=⟨Tryz.f194.name,by decide,func194.trans (congrArg some (by kernel_rfl))⟩
 f17:=⟨Tryz.f195.name,by decide,func195.trans (congrArg some (by kernel_rfl))⟩
 f18:=⟨Tryz.f196.name,by decide,func196.trans (congrArg some (by kernel_rfl))⟩
 f19:=func179.trans (congrArg some (by kernel_rfl))
 f20:=func180.trans (congrArg some (by kernel_rfl))
 f30:=⟨Tryz.f212.name,by decide,func212.trans (congrArg some (by kernel_rfl))⟩
 f31:=func202.trans (congrArg some (by kernel_rfl))
 f32:=func203.trans (congrArg some (by kernel_rfl))
 f33:=⟨Tryz.f213.name,by decide,func213.trans (congrArg some (by kernel_rfl))⟩
 f34:=⟨Tryz.f214.name,by decide,func214.trans (congrArg some (by kernel_rfl))⟩
 f35:=⟨Tryz.f163.name,by decide,func163.trans (congrArg some (by kernel_rfl))⟩
 f40:=⟨Tryz.f225.name,by decide,func225.trans (congrArg some (by kernel_rfl))⟩
 t0:=underlying0
 a0:=isAgg0
 z0:=sizeOf0
 v0:=zeroValue0
 t3:=underlying3
 a3:=isAgg3
 z3:=sizeOf3
 v3:=zeroValue3
 t4:=underlying4
 a4:=isAgg4
 z4:=sizeOf4
 v4:=zeroValue4
 t5:=underlying5
 a5:=isAgg5
 z5:=sizeOf5
 v5:=zeroValue5
 t9:=underlying9
 a9:=isAgg9
 z9:=sizeOf9
 v9:=zeroValue9
 t22:=underlying76
 a22:=isAgg76
 z22:=sizeOf76
 v22:=zeroValue76
 t23:=underlying76
 a23:=isAgg76
 z23:=sizeOf76
 v23:=zeroValue76
 t25:=underlying2
 a25:=isAgg2
 z25:=sizeOf2
 v25:=zeroValue2
 t32:=underlying219
 a32:=isAgg219
 z32:=sizeOf219
 v32:=zeroValue219
 t35:=underlying228
 a35:=isAgg228
 z35:=sizeOf228
 v35:=zeroValue228
 t36:=underlying229
 a36:=isAgg229
 z36:=sizeOf229
 v36:=zeroValue229
 t41:=underlying233
 a41:=isAgg233
 z41:=sizeOf233
 v41:=zeroValue233
 t44:=underlying236
 a44:=isAgg236
 z44:=sizeOf236
 v44:=zeroValue236
 t46:=underlying238
 a46:=isAgg238
 z46:=sizeOf238
 v46:=zeroValue238
 t53:=underlying261
 a53:=isAgg261
 z53:=sizeOf261
 v53:=zeroValue261
 t57:=underlying265
 a57:=isAgg265
 z57:=sizeOf265
 v57:=zeroValue265
 t63:=underlying280
 a63:=isAgg280
 z63:=sizeOf280
 v63:=zeroValue280
 t64:=underlying281
 a64:=isAgg281
 z64:=sizeOf281
 v64:=zeroValue281}
def Tryz.cloneA_ren:Go.Shelf.Ren:=⟨fun|5=>206|7=>220|n=>n,fun|23=>184|25=>2|3=>2|4=>4|20=>20|n=>n,fun|n=>n⟩
theorem Tryz.cloneA:Go.Proofs.SlLaysW.n5 prog Tryz.cloneA_ren:={
 mixed:=by kernel_rfl
 f5:=⟨Tryz.f206.name,by decide,func206.trans (congrArg some (by kernel_rfl))⟩
 f7:=func220.trans (congrArg some (by kernel_rfl))
 t4:=underlying4
 a4:=isAgg4
 z4:=sizeOf4
 v4:=zeroValue4
 t20:=underlying20
 a20:=isAgg20
 z20:=sizeOf20
 v20:=zeroValue20
 t23:=underlying184
 a23:=isAgg184
 z23:=sizeOf184
 v23:=zeroValue184}
def Tryz.copyA_ren:Go.Shelf.Ren:=⟨fun|5=>207|n=>n,fun|23=>184|24=>184|26=>2|27=>2|0=>0|4=>4|n=>n,fun|n=>n⟩
theorem Tryz.copyA:Go.Proofs.SlLaysX.n5 prog Tryz.copyA_ren:={
 mixed:=by kernel_rfl
 f5:=⟨Tryz.f207.name,by decide,func207.trans (congrArg some (by kernel_rfl))⟩
 t0:=underlying0
 a0:=isAgg0
 z0:=sizeOf0
 v0:=zeroValue0
 t4:=underlying4
 a4:=isAgg4
 z4:=sizeOf4
 v4:=zeroValue4
 t23:=underlying184
 a23:=isAgg184
 z23:=sizeOf184
 v23:=zeroValue184
 t24:=underlying184
 a24:=isAgg184
 z24:=sizeOf184
 v24:=zeroValue184
 a26:=isAgg2
 z26:=sizeOf2
 a27:=isAgg2
 z27:=sizeOf2}
open Go Go.RowKit Go.Deep Go.Maps Go.Sort
def Ce(l:List Int):List Int:=l.mergeSort (fun x y=>decide (x<=y))
theorem FY(l:List Int):(Ce l).length=l.length:=by simp[Ce]
theorem Q7(B:Nat)(v:Value)(l:List Int)(w:World)(h:Ax w B v l)(hl:l.length<=100000):
 Calls prog 157 #[v] w fun e w'=>e= .returned (.tuple #[])/\Ax w' B v (Ce l)/\w.grownBy w' v.ownBlock:=by
 rcases h.2 with⟨rfl,hn⟩|⟨g,cap,cur,rfl,hB,hb,h1,h2,h3,h4⟩
 ·have e0:l=[]:=List.eq_nil_of_length_eq_zero hn;subst e0;refine(AnyM.slices_Sort_int_none Tryz.sortA none 0 w).mono ?_;rintro e w' ⟨rfl,rfl⟩;have e0:Ce []=[]:=by simp[Ce]
  rw[e0];exact⟨rfl,h,⟨rfl,rfl,rfl,Nat.le_refl _,fun _ _ _=>rfl⟩⟩
 ·have hlt:g<w.heap.size:=(Array.getElem?_eq_some_iff.1 hb).1;refine(AnyM.slices_Sort_int Tryz.sortA g 0 cap l w (holds_of_blockI hb (by simpa using h4)) hlt (by omega)).mono ?_;rintro e w' ⟨rfl,n,os,rfl⟩;refine⟨rfl,?_,grownBy_sortedI _⟩;have:=ownsRow_sortedI (n:=n) (os:=os) (ts:=Ce l) (FY l) hB hb h1 h2 h3;unfold Ax;rw[FY];exact this
theorem Kv.sorted{w0 w w':World}{c:Nat}{v:Value}{l l':List Int}(h:Kv w0 c w v l)(ho:Ax w' (w0.heap.size+1+1+1) v l')(hg:w.grownBy w' v.ownBlock):Kv w0 c w' v l':=by
 have hne:∀k,k<w0.heap.size+1+1+1->some k≠v.ownBlock:=fun k hk e=>by have:=(World.ownsRow.lt h.o k e.symm).1;omega
 exact⟨h.b.trans (below_grown hg h.b.size (fun j hj=>by have:=(World.ownsRow.lt h.o j hj).1;omega)),h.q.grown hg (hne _ (by omega)),h.p.grown hg (hne _ (by omega)),h.r.grown hg (hne _ (by omega)),ho⟩
theorem Ax.low{w:World}{B B':Nat}{v:Value}{l:List Int}(h:Ax w B v l)(hB:B'<=B):Ax w B' v l:=by
 refine⟨h.1,?_⟩;rcases h.2 with hn|⟨g,cap,cur,hv,hb,rest⟩
 ·exact .inl hn
 ·exact .inr ⟨g,cap,cur,hv,by omega,rest⟩
theorem Po(w:World)(B c n:Nat)(ids ups:Nat->Int)(ob off:Nat)(nb:Nat->Nat)(kv:Nat->Value)(hN:Dj w B c n ids ob off nb kv (Bs ids ups n))(hr:CM ids n)(h0:∀j,j<n->ids j≠ups 0)
 (hw:∀i,i<n->(Lit.int .i64 (ids i)).wf=true)(hn:n<=271)(i:Nat)(hi:i<n)(hc:Gx ids ups n i):
 Calls prog 127 #[.map (some c),.int .i64 (ids i)] w fun e w'=>∃v,e= .returned v/\Ax w' w v (Ce ((EJ ids ups n n i).map ids))/\Below w w w':=by
 have hst:=fun(W:World) (a:Addr) (x y:Array Value) (m:Mode)=>run_store prog W a (.func (.func 156) x y) m rfl;have n1:Nw (w.alloc (.cells #[.map (some c)] 100)):=⟨⟩;have b1:Below w w n1:=(Below.refl _ w).alloc (Nat.le_refl _) _;have LK:=(hN.map.below b1).look (hw i hi);rw[De hr hi]at LK;simp only[Option.map_some]at LK;have hlen:(EJ ids ups n n i).length<=n:=Ga (G6 hr h0 hi hc) (fun x hx=>((DT hr h0 hi).1 hx).1);have n2:No (.cells #[Nb w.heap.size] 213):=⟨⟩;have n3:No (.cells #[.slice none 0 0] 76):=⟨⟩;have W0:Kv w c (((n1:World).alloc n3).alloc n2) (.slice none 0 0) []:=by
  refine⟨?_,?_,?_,?_,Ax.nil _ _⟩
  ·exact(b1.alloc b1.size _).alloc (b1.alloc b1.size _).size _
  ·exact((Ah.new w _).alloc _).alloc _
  ·have:=(Ah.new n1 n3).alloc n2;simpa using this
  ·have:=Ah.new ((n1:World).alloc n3) n2;simpa using this
 have C1:=hid (Yb w B c n ids ups ob off nb kv hN hr h0 hw hn n i [] (.slice none 0 0) _ hi (fun j m hj e=>Nk hc hj e) (by simp;omega) W0);unfold Nb at C1;simp only[List.nil_append]at C1;clear W0 hN h0 hw hr;go_enter func127,ntmps127
 go_wp2_with fail
 refine C1.out.mono ?_;rintro e w2 ⟨v2,rfl,h2⟩;have H2:=hid h2;have x1:_=some v2:=h2.p.c0 0 rfl;have C2:=hid (Q7 _ v2 _ w2 h2.o (by rw[List.length_map];omega));clear h2 C1 LK;go_wp2_with fail
 refine C2.out.mono ?_;rintro e w3 ⟨rfl,o3,g3⟩;have H3:=hid (H2.out.sorted o3 g3);have x3:_=some v2:=H3.out.p.c0 0 rfl;clear o3 g3 x1 C2 H2;go_wp2;go_ret;exact⟨v2,rfl,H3.out.o.low (by omega),H3.out.b⟩
theorem Tq{n:Nat}{O:Nat->Ab}(h:BQ n O=true):((((Ce ((EJ (fun i=>(O i).id) (fun i=>(O i).up) n n 0).map (fun i=>(O i).id))).length:Nat):Int)==(n:Int))=Eh (fun i=>(O i).id) (fun i=>(O i).up) n:=by
 rw[FY,List.length_map];obtain⟨h1,_⟩:=Cc h;have hp:=XU (Bt h) (ups:=fun i=>(O i).up) (fun j hj=>by have:=Ea h j hj;have:=(Cm h).2.2;omega) (by omega);rw[Bool.eq_iff_iff,<-hp];simp only[beq_iff_eq];omega
theorem Vu{n:Nat}{O:Nat->Ab}(h:BQ n O=true):∃L:Nat,(Ce ((EJ (fun i=>(O i).id) (fun i=>(O i).up) n n 0).map (fun i=>(O i).id))).length=L/\L<=271/\((L:Int)==(n:Int))=Eh (fun i=>(O i).id) (fun i=>(O i).up) n:=by
 refine⟨_,rfl,?_,Tq h⟩;rw[FY,List.length_map];obtain⟨h1,h2,_⟩:=Cc h;have:=Ga (G6 (Bt h) (ups:=fun i=>(O i).up) (fun j hj=>by have:=Ea h j hj;have:=(Cm h).2.2;omega) (f:=n) (i:=0) (by omega) Fs) (fun x hx=>((DT (Bt h) (ups:=fun i=>(O i).up) (fun j hj=>by have:=Ea h j hj;have:=(Cm h).2.2;omega) (by omega)).1 hx).1);omega
theorem SE(a:Option Addr)(n cap:Nat)(O:Nat->Ab)(w:World)(hcap:n<=cap)(hO:Et w a n O)(h2:BQ n O=true)(hw:∀i,i<n->(Lit.int .i64 (O i).id).wf=true/\(Lit.int .i64 (O i).up).wf=true):
 Calls prog 101 #[.slice a n cap] w fun e w'=>e= .returned (.bool (Hw n O&&Eh (fun i=>(O i).id) (fun i=>(O i).up) n))/\Below w w w':=by
 obtain⟨on1,on2,_,_⟩:=Cc h2;have HO:=hid hO;obtain⟨ob,off,rfl,_,_⟩:=hO (by omega);have HW:=hid hw;have H2:=hid h2;obtain⟨L,eL,hL,rL⟩:=Vu h2;have EL:=hid eL;have RL:=hid rL;clear eL rL;clear hO h2 hw;have C1:=hid (Lh ob off n cap O w on2 HO (Bt H2) HW);go_enter func101,ntmps101
 go_wp2_with fail
 refine C1.out.mono ?_;rintro e w1 ⟨c,nb,kv,rfl,hN,b1⟩;have HN:=hid hN;clear hN C1;have END:Hid (∀wr:World,Below w1 w1 wr->Calls prog 127 #[.map (some c),.int .i64 1] wr fun e w'=>∃a2 k2,e= .returned (.slice a2 L k2)/\Below wr wr w'):=hid (fun wr hb=>by
  have:=Po wr w c n (fun i=>(O i).id) (fun i=>(O i).up) ob off nb kv (HN.out.below hb) (Bt H2) (fun j hj=>by have:=Ea H2 j hj;have:=(Cm H2).2.2;omega) (fun i hi=>(HW i hi).1) on2 0 (by omega) Fs;rw[(Cm H2.out).1]at this;refine this.mono ?_;rintro e w' ⟨v,rfl,o,b⟩;obtain⟨a2,k2,rfl⟩:=Cw o;rw[EL.out];exact⟨a2,k2,rfl,b⟩)
 have c1:(n:Int)<=(cap:Int):=by omega
 have c2:(1:Int)<=(n:Int):=by omega
 by_cases hok:cap=1
 ·obtain rfl:n=1:=by omega
  subst hok;go_wp2;go_loopw [12] (fun i wr=>i= .int .i64 0/\Below w1 w1 wr) (fun i _=>0)
  case atStart=>exact⟨rfl,Below.refl _ _⟩
  case round=>
   obtain⟨rfl,hB⟩:=hrel;go_wp2_with fail
   refine(END wr hB).mono ?_;rintro e w2 ⟨a2,k2,rfl,b2⟩;go_wp2;go_ret;refine⟨Ag ?_,Ae b1 (Ae hB b2)⟩;rw[<-RL.out];simp[Hw]
 ·go_wp2;go_loopw [12] (fun i wr=>∃q:Nat,q<=n-1/\i= .int .i64 q/\Hid (∀p,p<q->Fg n O (O (p+1)).up=true)/\Below w1 w1 wr) (fun i _=>n-1-(intOf i).toNat)
  case atStart=>exact⟨0,Nat.zero_le _,rfl,hid (fun p hp=>by omega),Below.refl _ _⟩
  case round=>
   obtain⟨q,hq,rfl,HA,hB⟩:=hrel;by_cases hlt2:q<n-1
   ·obtain⟨_,_,ea,hlt0,hcc⟩:=(HO.out.below b1).below hB (by omega);cases ea;obtain⟨⟨q0,q1,q2,q3,q4,q5,q6,q7,q8,q9⟩,ht⟩:=hcc (q+1) (by omega);have ei:off+(q+1)*10=off+10+q*10:=(by omega);rw[ei]at q0 q1 q2 q3 q4 q5 q6 q7 q8 q9;have i2:(q:Int)<((n-1:Nat):Int):=(by omega);simp only[Al.val,Av.val,Ao.val]at q4 q6 q7 q9;have bC:Below wr wr (wr.alloc (.cells #[.int .i64 (O (q+1)).id,.int .i64 (O (q+1)).kind,.int .i64 (O (q+1)).up,.int .i64 (O (q+1)).b1,.slice (O (q+1)).c1.a (O (q+1)).c1.n (O (q+1)).c1.k,.string (O (q+1)).data,.slice (O (q+1)).jA.a (O (q+1)).jA.n (O (q+1)).jA.k,.slice (O (q+1)).own.a (O (q+1)).own.n (O (q+1)).own.k,.int .i64 (O (q+1)).b2,.slice (O (q+1)).c2.a (O (q+1)).c2.n (O (q+1)).c2.k] 88)):=(Below.refl _ wr).alloc (Nat.le_refl _) _;have BC:=Ae hB bC;have N1:=hid (HN.out.below BC);have LK:=N1.out.map.look (x:=(O (q+1)).up) (HW (q+1) (by omega)).2;cases hf:Bd (fun i=>(O i).id) n (O (q+1)).up with
    |none=>
     have BO:Hid (Fg n O (O (q+1)).up=false):=hid (by simp[Fg,hf]);rw[hf]at LK;simp only[Option.map_none]at LK;clear hcc ht ei hf;go_wp2;go_ret;exact⟨Ag (by rw[Hw,Gh hlt2 BO.out];rfl),Ae b1 BC⟩
    |some u=>
     obtain⟨hu,_⟩:=AE hf;have BO:Hid (Fg n O (O (q+1)).up=((O u).kind==3)):=hid (by simp[Fg,hf]);rw[hf]at LK;simp only[Option.map_some]at LK;have k1:=(hcc u hu).1.c1;have k2:=(bC.cell (p:=⟨ob,off+u*10+1,none⟩) hlt0).trans k1;have n1:_=some (Value.pointer (some ⟨ob,off+u*10,none⟩)):=(N1.out.blk u hu).c0 0 rfl;clear hcc ht ei hf k1;cases c3:((O u).kind==3)with
     |false=>
      rw[c3]at BO;have c3':¬(O u).kind=3:=(by simpa using c3);go_wp2;go_ret;exact⟨Ag (by rw[Hw,Gh hlt2 BO.out];rfl),Ae b1 BC⟩
     |true=>
      rw[c3]at BO;have c3':(O u).kind=3:=(by simpa using c3);rw[c3']at k2;clear c3;go_wp2;refine⟨⟨q+1,by omega,by go_num,hid (fun p hp=>?_),BC⟩,by simp[intOf];omega⟩;by_cases e:p=q
      ·subst e;exact BO.out
      ·exact HA.out p (by omega)
   ·have e:q=n-1:=(by omega);subst e;go_wp2_with fail
    refine(END wr hB).mono ?_;rintro e w2 ⟨a2,k2,rfl,b2⟩;go_wp2;go_ret;refine⟨Ag ?_,Ae b1 (Ae hB b2)⟩;rw[Hw,DV HA.out,Bool.true_and,<-RL.out]
theorem Q6(k:Ar)(w:World)(hk:k.at w)(hcap:k.on<=k.ok)(hw:∀i,i<k.on->(Lit.int .i64 (k.O i).id).wf=true/\(Lit.int .i64 (k.O i).up).wf=true):
 Calls prog 52 #[k.val] w fun e w'=>e= .returned (.bool (BI k))/\Below w w w':=by
 have n1:No (.cells #[.slice k.ta k.tn k.tk,.slice k.oa k.on k.ok] 36):=⟨⟩;have hb0:=(Below.refl _ w).alloc (Nat.le_refl _) n1;have A0:=Ah.new w n1;have T0:=hid (hk.below hb0);have HW:=hid hw;have HC:=hid hcap;unfold Ar.val;obtain⟨x0,x1⟩:=A0.two;clear hk hw hcap;go_enter func52,ntmps52
 go_wp2_with fail
 refine(Of _ _ _ k.T _ T0.out.1 T0.out.2.2.1).mono ?_;rintro e w1 ⟨rfl,hb1⟩;have A1:=A0.below hb1;have T1:=hid (T0.out.below hb1);have B1:=Ae hb0 hb1;clear x0 x1 A0 T0 hb0 hb1;obtain⟨x0,x1⟩:=A1.two;cases t1:Bq k.tn k.T with
 |false=>
  go_wp2;go_ret;exact⟨Ag (FZ t1).symm,B1⟩
 |true=>
 go_wp2_with fail
 refine(Oz _ _ _ k.O _ T1.out.2.1 T1.out.2.2.2).mono ?_;rintro e w2 ⟨rfl,hb2⟩;have A2:=A1.below hb2;have T2:=hid (T1.out.below hb2);have B2:=Ae B1 hb2;clear x0 x1 A1 T1 B1 hb2;obtain⟨x0,x1⟩:=A2.two;cases t2:BQ k.on k.O with
 |false=>
  go_wp2;go_ret;exact⟨Ag (by simp[BI,t2]),B2⟩
 |true=>
 have C3:=hid (OJ k w2 T2 HC t1 t2 (fun i hi=>(HW i hi).1));unfold Ar.val at C3;go_wp2_with fail
 refine C3.out.mono ?_;rintro e w3 ⟨rfl,hb3⟩;have A3:=A2.below hb3;have T3:=hid (T2.out.below hb3);have B3:=Ae B2 hb3;clear x0 x1 A2 T2 B2 hb3 C3;obtain⟨x0,x1⟩:=A3.two;cases t3:FP k.tn k.T k.on k.O with
 |false=>
  go_wp2;go_ret;exact⟨Ag (by simp[BI,t3]),B3⟩
 |true=>
 have C4:=hid (SE k.oa k.on k.ok k.O w3 HC T3.out.2.2.2 t2 HW);have OK:Hid (BI k=(Hw k.on k.O&&Eh (fun i=>(k.O i).id) (fun i=>(k.O i).up) k.on)):=hid (by simp[BI,t1,t2,t3]);clear t1 t2 t3;go_wp2_with fail
 refine C4.out.mono ?_;rintro e w4 ⟨rfl,hb4⟩;have B4:=Ae B3 hb4;rw[<-OK.out];clear x0 x1 A3 T3 B3 hb4 C4;go_wp2;go_ret;exact⟨rfl,B4⟩
theorem Im{ids ids':Nat->Int}{n:Nat}(h:∀i,i<n->ids' i=ids i)(x:Int):Bd ids' n x=Bd ids n x:=by
 apply Option.ext;intro j;unfold Bd;rw[List.find?_range_eq_some,List.find?_range_eq_some];constructor
 ·rintro⟨h1,h2,h3⟩;have hj:=List.mem_range.1 h2;rw[h j hj]at h1;exact⟨h1,h2,fun i hi=>by have:=h3 i hi;rw[h i (by omega)]at this;exact this⟩
 ·rintro⟨h1,h2,h3⟩;have hj:=List.mem_range.1 h2;rw[<-h j hj]at h1;exact⟨h1,h2,fun i hi=>by have:=h3 i hi;rw[<-h i (by omega)]at this;exact this⟩
theorem VY{ids ids' ups ups':Nat->Int}{n:Nat}(h:∀i,i<n->ids' i=ids i)(hu:∀i,i<n->ups' i=ups i){i:Nat}(hi:i<n):IM ids' ups' n i=IM ids ups n i:=by
 unfold IM;rw[hu i hi,Im h]
theorem RH{ids ids' ups ups':Nat->Int}{n:Nat}(h:∀i,i<n->ids' i=ids i)(hu:∀i,i<n->ups' i=ups i)(m:Nat){i:Nat}(hi:i<n):Bg ids' ups' n m i=Bg ids ups n m i:=by
 induction m generalizing i with
 |zero=>rfl
 |succ m ih=>
  simp only[Bg];rw[VY h hu hi];cases e:IM ids ups n i with
  |none=>rfl
  |some j=>exact ih (MZ e)
theorem Hj{n:Nat}{p q:Nat->Bool}(h:∀i,i<n->p i=q i):(List.range n).all p=(List.range n).all q:=by
 rw[Bool.eq_iff_iff];constructor
 ·intro e;exact DV fun i hi=>by rw[<-h i hi];exact Fx e i hi
 ·intro e;exact DV fun i hi=>by rw[h i hi];exact Fx e i hi
theorem Qr{ids ids' ups ups':Nat->Int}{n:Nat}(h:∀i,i<n->ids' i=ids i)(hu:∀i,i<n->ups' i=ups i):Eh ids' ups' n=Eh ids ups n:=by
 unfold Eh;refine Hj fun i hi=>?_;congr 1;funext m;rw[RH h hu m hi]
theorem Tb{t u:Ac}(h:t.same u):CS u=CS t:=by
 obtain⟨h1,h2,⟨a1,a2,a3⟩,h3,⟨b1,b2,b3⟩,⟨c1,c2⟩,h4⟩:=h;simp only[CS,h1,h2,h3,h4,a1,a2,a3,b1,b2,b3,c1,c2]
theorem Tv{t u:Ab}(h:t.same u):Cn u=Cn t:=by
 obtain⟨h1,h2,h3,h4,⟨a1,a2,a3⟩,h5,⟨d1,d2⟩,⟨c1,c2⟩,h6,⟨b1,b2,b3⟩⟩:=h;simp only[Cn,Ha,h2,h4,h5,h6,a1,a2,a3,b1,b2,b3,c1,c2,d1,d2]
theorem Tw{f g f' g':Nat->Int}{n:Nat}(hf:∀i,i<n->f' i=f i)(hg:∀i,i<n->g' i=g i)(x:Int):look f' g' n x=look f g n x:=by
 induction n with
 |zero=>rfl
 |succ n ih=>
  rw[look,look,hf n (by omega),hg n (by omega),ih (fun i hi=>hf i (by omega)) (fun i hi=>hg i (by omega))]
theorem Ds{k l:Ar}(h:k.same l):BI l=BI k:=by
 obtain⟨h1,h2,h3,h4⟩:=h;have i1:∀i,i<k.on->(l.O i).id=(k.O i).id:=fun i hi=>(h4 i hi).1;have u1:∀i,i<k.on->(l.O i).up=(k.O i).up:=fun i hi=>(h4 i hi).2.2.1;have k1:∀i,i<k.on->(l.O i).kind=(k.O i).kind:=fun i hi=>(h4 i hi).2.1;have t1:∀i,i<k.tn->(l.T i).id=(k.T i).id:=fun i hi=>(h2 i hi).1;have m1:∀i,i<k.tn->(l.T i).made=(k.T i).made:=fun i hi=>(h2 i hi).2.2.2.2.2.2;by_cases h0:1<=k.on
 ·have e1:Bq l.tn l.T=Bq k.tn k.T:=by
   unfold Bq;rw[h1];congr 1;refine Hj fun i hi=>?_;unfold DK;rw[Tb (h2 i hi),t1 i hi];by_cases e:i=0
   ·subst e;rfl
   ·rw[t1 (i-1) (by omega)]
  have e2:BQ l.on l.O=BQ k.on k.O:=by
   unfold BQ E7;rw[h3,i1 0 h0,u1 0 h0,k1 0 h0];congr 2;refine Hj fun i hi=>?_;unfold Fi;rw[Tv (h4 i hi),i1 0 h0,i1 i hi];by_cases e:i=0
   ·subst e;rfl
   ·rw[i1 (i-1) (by omega)]
  have e3:FP l.tn l.T l.on l.O=FP k.tn k.T k.on k.O:=by
   unfold FP;rw[h3];refine Hj fun i hi=>?_;unfold Ex madeOf;rw[i1 (i+1) (by omega),h1,Tw t1 m1]
  have e4:Hw l.on l.O=Hw k.on k.O:=by
   unfold Hw;rw[h3];refine Hj fun i hi=>?_;unfold Fg;rw[u1 (i+1) (by omega),Im i1];split
   ·rename_i u hu;rw[k1 u (AE hu).1]
   ·rfl
  unfold BI;rw[e1,e2,e3,e4,h3,Qr i1 u1]
 ·rw[Hd (k:=k) (by omega),Hd (k:=l) (by rw[h3];omega)]
def IW(O:Nat->Ab)(x:Int)(q:Nat):List Int:=((List.range q).filter (fun j=>(O j).up==x)).map (fun i=>(O i).id)
theorem Yn{O:Nat->Ab}{x:Int}{q:Nat}(h:(O q).up=x):IW O x (q+1)=IW O x q++[(O q).id]:=by
 simp[IW,List.range_succ,h]
theorem ZR{O:Nat->Ab}{x:Int}{q:Nat}(h:(O q).up≠x):IW O x (q+1)=IW O x q:=by
 simp[IW,List.range_succ,h]
theorem Ux(O:Nat->Ab)(x:Int)(q:Nat):(IW O x q).length<=q:=by
 unfold IW;rw[List.length_map];exact Nat.le_trans (List.length_filter_le _ _) (by simp)
theorem XH{O:Nat->Ab}{n u:Nat}:IW O (O u).id n=Bs (fun i=>(O i).id) (fun i=>(O i).up) n u:=rfl
theorem Nn(k:Ar)(x:Int)(w:World)(hk:k.at w)(hn:k.on<=271):
 Calls prog 94 #[k.val,.int .i64 x] w fun e w'=>∃v,e= .returned v/\Ax w' w v (IW k.O x k.on)/\Below w w w':=by
 have n1:No (.cells #[.slice k.ta k.tn k.tk,.slice k.oa k.on k.ok] 36):=⟨⟩;have hb0:=(Below.refl _ w).alloc (Nat.le_refl _) n1;have A0:=Ah.new w n1;have bm:=hb0.alloc hb0.size (.cells #[] 2);have A1:=A0.alloc (.cells #[] 2);have O1:=Ax.made (w.alloc n1) (w.heap.size+1) (by simp);have HT:=hid hk;unfold Ar.val;clear hk;go_enter func94,ntmps94
 go_wp2;generalize hW:((w.alloc n1).alloc (.cells #[] 2))=W at *;have O2:Ax W (w.heap.size+1) (.slice (some ⟨w.heap.size+1,0,none⟩) 0 0) []:=by simpa using O1
 clear hW hb0 A0 O1;go_loopw [5,6] (fun v i wr=>∃q:Nat,q<=k.on/\i= .int .i64 q/\Hid (Ax wr (w.heap.size+1) v (IW k.O x q))/\Ah wr w n1/\Below w w wr) (fun _ i _=>k.on-(intOf i).toNat)
 case atStart=>exact⟨0,Nat.zero_le _,rfl,hid O2,A1,bm⟩
 case round=>
  clear O2 A1 bm;obtain⟨q,hq,rfl,HO,A,hB⟩:=hrel;obtain⟨x0,x1⟩:=A.two;by_cases hlt:q<k.on
  ·obtain⟨b,off,ea,hlt0,hcc⟩:=HT.out.2.2.2.below hB (by omega);have q0:=(hcc q hlt).1.c0;have q2:=(hcc q hlt).1.c2;rw[ea]at x1;have i1:(q:Int)<(k.on:Int):=(by omega);clear hcc ea;by_cases e:(k.O q).up=x
   ·have e':((k.O q).up==x)=true:=(by simpa using e);have EQ:=hid (Yn e);have hl:=Ux k.O x q;have n2:No (.cells #[.int .i64 (k.O q).id] 2):=⟨⟩;have B1:Below w w (wr.alloc n2):=hB.alloc hB.size _;have AA:=A.alloc n2;have OA:=hid (Ax.alloc HO n2);have L1:=hid (Dd.one (w:=wr) (k.O q).id);have s1:w.heap.size+1<=(wr.alloc n2).heap.size:=(by have:=A.lt;simp;omega);have FIN:Hid (∀w3:World,(wr.alloc n2).grownBy w3 u5.ownBlock->Ah w3 w (.cells #[.slice k.ta k.tn k.tk,.slice k.oa k.on k.ok] 36)/\Below w w w3):=hid (fun w3 g3=>⟨AA.grown g3 (fun e=>by have:=(World.ownsRow.lt OA _ e.symm).1;omega),B1.trans (below_grown g3 B1.size (fun j hj=>by have:=(World.ownsRow.lt OA j hj).1;omega))⟩);clear e HO;go_wp2_with(refine Do _ rfl _ _ rfl (w.heap.size+1) u5 (IW k.O x q) rfl OA _ 1 1 [(k.O q).id] rfl rfl L1 (by omega) s1 ?_;intro a3 c3 w3 o3 g3 v3)
    rw[<-EQ.out]at o3;obtain⟨f1,f2⟩:=FIN.out w3 g3;exact⟨⟨q+1,by omega,by go_num,hid (by first|exact o3|simpa[EQ.out]using o3),f1,f2⟩,by simp[intOf];omega⟩
   ·have e':((k.O q).up==x)=false:=(by simpa using e);have EQ:=hid (ZR e);clear e;go_wp2;exact⟨⟨q+1,by omega,by go_num,hid (by rw[EQ.out];exact HO.out),A,hB⟩,by simp[intOf];omega⟩
  ·have i1:¬(q:Int)<(k.on:Int):=(by omega);have e:q=k.on:=(by omega);have HO2:Hid (Ax wr (w.heap.size+1) u5 (IW k.O x k.on)):=hid (by rw[<-e];exact HO.out);clear HO e;go_wp2;go_ret;exact⟨u5,rfl,HO2.out.low (by omega),hB⟩
theorem Bl{k:Ar}(h:BI k=true):Bq k.tn k.T=true/\BQ k.on k.O=true/\FP k.tn k.T k.on k.O=true/\Hw k.on k.O=true/\Eh (fun i=>(k.O i).id) (fun i=>(k.O i).up) k.on=true:=by
 simp only[BI,Bool.and_eq_true]at h;exact⟨h.1.1.1.1,h.1.1.1.2,h.1.1.2,h.1.2,h.2⟩
theorem Pv{k:Ar}(h:BI k=true){c:Nat}(hc:c<k.on)(h0:c≠0):∃u,Bd (fun i=>(k.O i).id) k.on (k.O c).up=some u:=by
 have hu:=Fx (Bl h).2.2.2.1 (c-1) (by omega);have e:c-1+1=c:=by omega
 simp only[e]at hu;unfold Fg at hu;split at hu
 ·rename_i u hu';exact⟨u,hu'⟩
 ·cases hu

theorem JA(L:List Int)(x:Int):(Dh L x).length<=L.length+1:=by
 unfold Dh;split
 ·omega
 ·simp;omega
theorem Xz(L:List Int)(x:Int):0<(Dh L x).length:=by
 unfold Dh;split
 ·rename_i h;have:=(List.getElem?_eq_some_iff.1 h).1;omega
 ·simp;omega
theorem MR{L:List Int}{x y:Int}(h:y∈Dh L x):y∈L∨y=x:=by
 unfold Dh at h;split at h
 ·exact .inl h
 ·rw[List.mem_append,List.mem_append,List.mem_singleton]at h;rcases h with(h|h)|h
  ·exact .inl (List.mem_of_mem_take h)
  ·exact .inr h
  ·exact .inl (List.mem_of_mem_drop h)
theorem Iy{L:List Int}{x:Int}(h:L.Pairwise (· <·)):(Dh L x).Pairwise (· <·):=by
 unfold Dh;split
 ·exact h
 ·rename_i hx;have hlo:∀y∈L.take (putAt L x),y<x:=by
   intro y hy;obtain⟨j,hj,rfl⟩:=List.getElem_of_mem hy;have hj':j<putAt L x:=(by simp at hj;omega);have:=List.not_of_lt_findIdx hj';simp at this;simpa using this
  have hhi:∀y∈L.drop (putAt L x),x<y:=by
   intro y hy;obtain⟨j,hj,rfl⟩:=List.getElem_of_mem hy;rw[List.getElem_drop];have hlen:putAt L x<L.length:=(by simp at hj;omega);have h0:¬L[putAt L x]<x:=by
    have:=List.findIdx_getElem (xs:=L) (p:=fun y=> !decide (y<x)) (w:=hlen);unfold putAt;simpa using this
   have h1:L[putAt L x]≠x:=fun e=>hx (by rw[List.getElem?_eq_getElem hlen,e]);by_cases ej:j=0
   ·subst ej;simp;omega
   ·have:=List.pairwise_iff_getElem.1 h (putAt L x) (putAt L x+j) hlen (by simp at hj;omega) (by omega);omega
  rw[List.append_assoc,List.pairwise_append];refine⟨h.sublist (List.take_sublist _ _),?_,?_⟩
  ·rw[List.singleton_append,List.pairwise_cons];exact⟨hhi,h.sublist (List.drop_sublist _ _)⟩
  ·intro y hy z hz;have h1:=hlo y hy;rw[List.singleton_append,List.mem_cons]at hz;rcases hz with rfl|hz
   ·exact h1
   ·have:=hhi z hz;omega
theorem UK{L:List Int}{x y:Int}:y∈Dh L x↔y∈L∨y=x:=by
 refine⟨MR,fun h=>?_⟩;unfold Dh;split
 ·rename_i e;rcases h with h|rfl
  ·exact h
  ·exact List.mem_of_getElem? e
 ·rcases h with h|rfl
  ·rw[<-List.take_append_drop (putAt L x) L]at h;rcases List.mem_append.1 h with h|h
   ·exact List.mem_append_left _ (List.mem_append_left _ h)
   ·exact List.mem_append_right _ h
  ·simp
theorem Nh:∀{l m:List Int},l.Pairwise (· <·)->m.Pairwise (· <·)->(∀x,x∈l↔x∈m)->l=m
 |[],[],_,_,_=>rfl
 |[],b::m,_,_,h=>by have:=(h b).2 List.mem_cons_self;cases this
 |a::l,[],_,_,h=>by have:=(h a).1 List.mem_cons_self;cases this
 |a::l,b::m,h1,h2,h=>by
  obtain⟨a1,a2⟩:=List.pairwise_cons.1 h1;obtain⟨b1,b2⟩:=List.pairwise_cons.1 h2;have e:a=b:=by
   rcases List.mem_cons.1 ((h a).1 List.mem_cons_self)with e|e
   ·exact e
   ·rcases List.mem_cons.1 ((h b).2 List.mem_cons_self)with e'|e'
    ·exact e'.symm
    ·have:=a1 b e';have:=b1 a e;omega
  subst e;rw[Nh a2 b2 fun x=>?_];constructor
  ·intro hx;rcases List.mem_cons.1 ((h x).1 (List.mem_cons_of_mem _ hx))with e|e
   ·subst e;have:=a1 x hx;omega
   ·exact e
  ·intro hx;rcases List.mem_cons.1 ((h x).2 (List.mem_cons_of_mem _ hx))with e|e
   ·subst e;have:=b1 x hx;omega
   ·exact e
theorem Kr{l:List Int}{x:Int}:x∈Ce l↔x∈l:=(List.mergeSort_perm l _).mem_iff
theorem S6{l:List Int}(h:l.Nodup):(Ce l).Pairwise (· <·):=by
 have h1:(Ce l).Pairwise (fun a b=>a<=b):=by
  have:=List.pairwise_mergeSort (le:=fun(x y:Int)=>decide (x<=y)) (fun a b c h1 h2=>by simp at *;omega) (fun a b=>by simp;omega) l;exact this.imp (fun h=>by simpa using h)
 have h2:(Ce l).Nodup:=(List.mergeSort_perm l _).nodup_iff.2 h;exact(h1.and h2).imp (fun{a b} ⟨h3,h4⟩=>by omega)
def Dq(L:List Int):List Int:=L.foldl Dh []
theorem Rt(L:List Int):(Dq L).Pairwise (· <·):=by
 unfold Dq;have:∀(M:List Int),M.Pairwise (· <·)->(L.foldl Dh M).Pairwise (· <·):=by
  induction L with
  |nil=>intro M h;exact h
  |cons a L ih=>intro M h;exact ih _ (Iy h)
 exact this [] List.Pairwise.nil
theorem TD(L:List Int)(x:Int):x∈Dq L↔x∈L:=by
 unfold Dq;have:∀(M:List Int),x∈L.foldl Dh M↔x∈M∨x∈L:=by
  induction L with
  |nil=>intro M;simp
  |cons a L ih=>intro M;rw[List.foldl_cons,ih,UK,List.mem_cons];exact or_assoc
 rw[this []];simp
theorem Uj(L:List Int):(Dq L).length<=L.length:=by
 unfold Dq;have:∀(M:List Int),(L.foldl Dh M).length<=M.length+L.length:=by
  induction L with
  |nil=>intro M;simp
  |cons a L ih=>intro M;rw[List.foldl_cons];have:=ih (Dh M a);have:=JA M a;simp only[List.length_cons];omega
 simpa using this []
section
variable {ids ups:Nat->Int}{n u:Nat}
structure Uz(ids ups:Nat->Int)(n u t:Nat)(Q:List Nat):Prop where
 nodup:Q.Nodup
 head:Q[0]? =some u
 mem:∀j∈Q,j<n/\∃m,Bg ids ups n m j=some u
 closed:∀s a,s<t->Q[s]? =some a->∀c∈CX ids ups n a,c∈Q
 origin:∀s c,0<s->Q[s]? =some c->∃r a,r<t/\Q[r]? =some a/\IM ids ups n c=some a
theorem Uz.start(hu:u<n):Uz ids ups n u 0 [u]:=by
 refine⟨by simp,rfl,fun j hj=>?_,fun s a hs=>by omega,fun s c hs e=>?_⟩
 ·simp at hj;subst hj;exact⟨hu,0,rfl⟩
 ·cases s with
  |zero=>omega
  |succ s=>simp at e
theorem Uz.step(hr:CM ids n)(h0:∀j,j<n->ids j≠ups 0)(hc:Gx ids ups n u){t a:Nat}{Q:List Nat}(h:Uz ids ups n u t Q)(ht:Q[t]? =some a):Uz ids ups n u (t+1) (Q++CX ids ups n a):=by
 have hta:t<Q.length:=(List.getElem?_eq_some_iff.1 ht).1;obtain⟨han,ma,hma⟩:=h.mem a (List.mem_of_getElem? ht);have kid:∀c,c∈CX ids ups n a->c<n/\IM ids ups n c=some a:=fun c hc=>(Fe hr h0 han).1 hc;have old:∀{s x},Q[s]? =some x->(Q++CX ids ups n a)[s]? =some x:=fun{s x} e=>by
  rw[List.getElem?_append_left (List.getElem?_eq_some_iff.1 e).1];exact e
 refine⟨?_,old h.head,fun j hj=>?_,fun s b hs e c hcb=>?_,fun s c hs e=>?_⟩
 ·rw[List.nodup_append];refine⟨h.nodup,List.Nodup.sublist List.filter_sublist List.nodup_range,fun x hx y hy exy=>?_⟩;subst exy;obtain⟨_,px⟩:=kid x hy;obtain⟨s,hs,es⟩:=List.getElem_of_mem hx;by_cases s0:s=0
  ·subst s0;have:x=u:=(by have:=h.head;rw[List.getElem?_eq_getElem hs,es]at this;simpa using this);subst this;exact hc ma (by simp only[Bg,px,Option.bind_some];exact hma)
  ·obtain⟨r,b,hrt,hb,pb⟩:=h.origin s x (by omega) (by rw[List.getElem?_eq_getElem hs,es]);rw[px]at pb;have eab:a=b:=(by simpa using pb);subst eab;have hrl:=(List.getElem?_eq_some_iff.1 hb).1;have e1:=(List.getElem?_eq_some_iff.1 hb).2;have e2:=(List.getElem?_eq_some_iff.1 ht).2;have:=(List.getElem_inj (h₀:=hrl) (h₁:=hta) h.nodup).1 (e1.trans e2.symm);omega
 ·rcases List.mem_append.1 hj with hj|hj
  ·exact h.mem j hj
  ·obtain⟨h1,h2⟩:=kid j hj;exact⟨h1,ma+1,by simp only[Bg,h2,Option.bind_some];exact hma⟩
 ·by_cases est:s=t
  ·subst est;rw[old ht]at e;have:a=b:=(by simpa using e);subst this;exact List.mem_append_right _ hcb
  ·have hsl:s<Q.length:=(by omega);rw[List.getElem?_append_left hsl]at e;exact List.mem_append_left _ (h.closed s b (by omega) e c hcb)
 ·by_cases hsl:s<Q.length
  ·rw[List.getElem?_append_left hsl]at e;obtain⟨r,b,h1,h2,h3⟩:=h.origin s c hs e;exact⟨r,b,by omega,old h2,h3⟩
  ·rw[List.getElem?_append_right (by omega)]at e;exact⟨t,a,by omega,old ht,(kid c (List.mem_of_getElem? e)).2⟩
theorem Uz.len{t:Nat}{Q:List Nat}(h:Uz ids ups n u t Q):Q.length<=n:=Ga h.nodup (fun x hx=>(h.mem x hx).1)
theorem Uz.all(hr:CM ids n)(h0:∀j,j<n->ids j≠ups 0){Q:List Nat}(h:Uz ids ups n u Q.length Q)(j:Nat):j∈Q↔j<n/\∃m,Bg ids ups n m j=some u:=by
 refine⟨h.mem j,?_⟩;rintro⟨hj,m,e⟩;induction m generalizing j with
 |zero=>
  simp only[Bg,Option.some.injEq]at e;subst e;exact List.mem_of_getElem? h.head
 |succ m ih=>
  simp only[Bg]at e;cases ep:IM ids ups n j with
  |none=>simp[ep]at e
  |some p=>
   simp only[ep,Option.bind_some]at e;have hp:=ih p (MZ ep) e;obtain⟨s,hs,es⟩:=List.getElem_of_mem hp;exact h.closed s p hs (by rw[List.getElem?_eq_getElem hs,es]) j ((Fe hr h0 (MZ ep)).2 ⟨hj,ep⟩)
theorem YM(hr:CM ids n)(h0:∀j,j<n->ids j≠ups 0)(hu:u<n)(hc:Gx ids ups n u){Q:List Nat}(h:Uz ids ups n u Q.length Q):Dq (Q.map ids)=Ce ((EJ ids ups n n u).map ids):=by
 have inj:∀{l:List Nat},l.Nodup->(∀x∈l,x<n)->(l.map ids).Nodup:=fun{l} hl hx=>by
  rw[List.Nodup,List.pairwise_map];refine List.Pairwise.imp_of_mem ?_ hl;intro a b ha hb hab e;exact hab (hr.inj (hx a ha) (hx b hb) e)
 refine Nh (Rt _) (S6 (inj (G6 hr h0 hu hc) (fun x hx=>((DT hr h0 hu).1 hx).1))) fun x=>?_;rw[TD,Kr,List.mem_map,List.mem_map];constructor
 ·rintro⟨j,hj,rfl⟩;obtain⟨h1,m,h2⟩:=h.mem j hj;exact⟨j,(DT hr h0 hu).2 ⟨h1,m,Nk hc h1 h2,h2⟩,rfl⟩
 ·rintro⟨j,hj,rfl⟩;obtain⟨h1,m,_,h2⟩:=(DT hr h0 hu).1 hj;exact⟨j,(h.all hr h0 j).2 ⟨h1,m,h2⟩,rfl⟩
end
end Go.Proofs.YtmikapeeflcbfaaGreatDoor
