import Derived.Test.YtphddbnadcjhgaaGreatDoorProg
import Derived.Shelf.SlIterI.Nil
import Derived.Shelf.SortM.Plain
import Derived.Shelf.SortM.SortNone
import Derived.Ground.GgzProg
import Derived.Ground.SlgmProg
import Derived.Ground.SlmcProg
import Derived.Ground.SlmpProg
import Derived.Shelf.SlMaps.Clone
import Derived.Shelf.SlMaps.Copy
import Derived.Test.YtphddbnadcjhgaaGreatDoorZ5
import Derived.Sort.OwnSortedInts
import Derived.Test.YtphddbnadcjhgaaGreatDoorZ2
import Derived.Test.YtphddbnadcjhgaaGreatDoorKB10
import Derived.Test.YtphddbnadcjhgaaGreatDoorZ8
set_option maxRecDepth 100000
set_option maxHeartbeats 4000000
namespace Go.Proofs.YtphddbnadcjhgaaGreatDoor
open Go.Shelf Go.Proofs.Tryz
def Tryz.keysA_ren:Go.Shelf.Ren:=⟨fun|7=>182|10=>195|n=>n,fun|23=>155|26=>2|3=>2|28=>195|0=>0|27=>194|33=>161|4=>4|n=>n,fun|n=>n⟩
theorem Tryz.keysA:Go.Proofs.SlLaysZI.n7 prog Tryz.keysA_ren:={
 mixed:=by kernel_rfl
 f7:=⟨Tryz.f182.name,by decide,func182.trans (congrArg some (by kernel_rfl))⟩
 f10:=⟨Tryz.f195.name,by decide,func195.trans (congrArg some (by kernel_rfl))⟩
 t0:=underlying0
 a0:=isAgg0
 z0:=sizeOf0
 v0:=zeroValue0
 t4:=underlying4
 a4:=isAgg4
 z4:=sizeOf4
 v4:=zeroValue4
 t23:=underlying155
 a23:=isAgg155
 z23:=sizeOf155
 v23:=zeroValue155
 t26:=underlying2
 a26:=isAgg2
 z26:=sizeOf2
 v26:=zeroValue2
 t27:=underlying194
 a27:=isAgg194
 z27:=sizeOf194
 v27:=zeroValue194
 t28:=underlying195
 a28:=isAgg195
 z28:=sizeOf195
 v28:=zeroValue195
 t33:=underlying161
 a33:=isAgg161
 z33:=sizeOf161
 v33:=zeroValue161}
def Tryz.sortedA_ren:Go.Shelf.Ren:=⟨fun|6=>181|8=>194|9=>130|11=>201|13=>135|12=>142|23=>152|24=>153|14=>161|15=>162|16=>163|17=>164|18=>165|19=>166|20=>167|21=>168|22=>169|25=>185|26=>175|27=>176|28=>186|29=>187|30=>136|31=>198|n=>n,fun|26=>2|28=>195|24=>38|0=>0|3=>3|37=>160|48=>209|50=>158|4=>4|40=>202|39=>201|45=>206|5=>5|9=>9|51=>233|55=>236|57=>249|58=>250|33=>161|n=>n,fun|n=>n⟩
theorem Tryz.sortedA:Go.Proofs.SlLaysZI.n6 prog Tryz.sortedA_ren:={
 mixed:=by kernel_rfl
 f6:=⟨Tryz.f181.name,by decide,func181.trans (congrArg some (by kernel_rfl))⟩
 f8:=⟨Tryz.f194.name,by decide,func194.trans (congrArg some (by kernel_rfl))⟩
 f11:=⟨Tryz.f201.name,by decide,func201.trans (congrArg some (by kernel_rfl))⟩
 t0:=underlying0
 a0:=isAgg0
 z0:=sizeOf0
 v0:=zeroValue0
 t24:=underlying38
 a24:=isAgg38
 z24:=sizeOf38
 v24:=zeroValue38
 t26:=underlying2
 a26:=isAgg2
 z26:=sizeOf2
 v26:=zeroValue2
 t28:=underlying195
 a28:=isAgg195
 z28:=sizeOf195
 v28:=zeroValue195
 i26:=by kernel_rfl}
def Tryz.sortA_ren:Go.Shelf.Ren:=⟨fun|5=>130|8=>135|7=>142|19=>152|20=>153|10=>161|11=>162|12=>163|13=>164|14=>165|15=>166|16=>167|17=>168|18=>169|30=>185|31=>175|32=>176|33=>186|34=>187|35=>136|40=>198|n=>n,fun|23=>38|25=>2|3=>3|32=>160|22=>38|0=>0|44=>209|46=>158|4=>4|36=>202|35=>201|41=>206|5=>5|9=>9|53=>233|57=>236|63=>249|64=>250|n=>n,fun|n=>n⟩
theorem Tryz.sortA:Go.Proofs.SlLaysM.n5 prog Tryz.sortA_ren:={
 mixed:=by kernel_rfl
 f5:=⟨Tryz.f130.name,by decide,func130.trans (congrArg some (by kernel_rfl))⟩
 f7:=⟨Tryz.f142.name,by decide,func142.trans (congrArg some (by kernel_rfl))⟩
 f8:=func135.trans (congrArg some (by kernel_rfl))
 f10:=⟨Tryz.f161.name,by decide,func161.trans (congrArg some (by kernel_rfl))⟩
 f11:=⟨Tryz.f162.name,by decide,func162.trans (congrArg some (by kernel_rfl))⟩
 f12:=⟨Tryz.f163.name,by decide,func163.trans (congrArg some (by kernel_rfl))⟩
 f13:=⟨Tryz.f164.name,by decide,func164.trans (congrArg some (by kernel_rfl))⟩
 f14:=⟨Tryz.f165.name,by decide,func165.trans (congrArg some (by kernel_rfl))⟩
 f15:=⟨Tryz.f166.name,by decide,func166.trans (congrArg some (by kernel_rfl))⟩
 f16:=⟨Tryz.f167.name,by decide,func167.trans (congrArg some (by kernel_rfl))⟩
 f17:=⟨Tryz.f168.name,by decide,func168.trans (congrArg some (by kernel_rfl))⟩
 f18:=⟨Tryz.f169.name,by decide,func169.trans (congrArg some (by kernel_rfl))⟩
 f19:=func152.trans (congrArg some (by kernel_rfl))
 f20:=func153.trans (congrArg some (by kernel_rfl))
 f30:=⟨Tryz.f185.name,by decide,func185.trans (congrArg some (by kernel_rfl))⟩
 f31:=func175.trans (congrArg some (by kernel_rfl))
 f32:=func176.trans (congrArg some (by kernel_rfl))
 f33:=⟨Tryz.f186.name,by decide,func186.trans (congrArg some (by kernel_rfl))⟩
 f34:=⟨Tryz.f187.name,by decide,func187.trans (congrArg some (by kernel_rfl))⟩
 f35:=⟨Tryz.f136.name,by decide,func136.trans (congrArg some (by kernel_rfl))⟩
 f40:=⟨Tryz.f198.name,by decide,func198.trans (congrArg some (by kernel_rfl))⟩
 t0:=underlying0
 a0:=isAgg0
 z0:=sizeOf0
 v0:=zeroValue0
 t3:=underlying3
 a3:=isAgg3
 z3:=sizeOf3
 v3:=zeroValue3
 t4:=underlying4
 a4:=isAgg4
 z4:=sizeOf4
 v4:=zeroValue4
 t5:=underlying5
 a5:=isAgg5
 z5:=sizeOf5
 v5:=zeroValue5
 t9:=underlying9
 a9:=isAgg9
 z9:=sizeOf9
 v9:=zeroValue9
 t22:=underlying38
 a22:=isAgg38
 z22:=sizeOf38
 v22:=zeroValue38
 t23:=underlying38
 a23:=isAgg38
 z23:=sizeOf38
 v23:=zeroValue38
 t25:=underlying2
 a25:=isAgg2
 z25:=sizeOf2
 v25:=zeroValue2
 t32:=underlying160
 a32:=isAgg160
 z32:=sizeOf160
 v32:=zeroValue160
 t35:=underlying201
 a35:=isAgg201
 z35:=sizeOf201
 v35:=zeroValue201
 t36:=underlying202
 a36:=isAgg202
 z36:=sizeOf202
 v36:=zeroValue202
 t41:=underlying206
 a41:=isAgg206
 z41:=sizeOf206
 v41:=zeroValue206
 t44:=underlying209
 a44:=isAgg209
 z44:=sizeOf209
 v44:=zeroValue209
 t46:=underlying158
 a46:=isAgg158
 z46:=sizeOf158
 v46:=zeroValue158
 t53:=underlying233
 a53:=isAgg233
 z53:=sizeOf233
 v53:=zeroValue233
 t57:=underlying236
 a57:=isAgg236
 z57:=sizeOf236
 v57:=zeroValue236
 t63:=underlying249
 a63:=isAgg249
 z63:=sizeOf249
 v63:=zeroValue249
 t64:=underlying250
 a64:=isAgg250
 z64:=sizeOf250
 v64:=zeroValue250}
def Tryz.cloneA_ren:Go.Shelf.Ren:=⟨fun|5=>179|7=>193|n=>n,fun|23=>155|25=>2|3=>2|4=>4|20=>20|n=>n,fun|n=>n⟩
theorem Tryz.cloneA:Go.Proofs.SlLaysW.n5 prog Tryz.cloneA_ren:={
 mixed:=by kernel_rfl
 f5:=⟨Tryz.f179.name,by decide,func179.trans (congrArg some (by kernel_rfl))⟩
 f7:=func193.trans (congrArg some (by kernel_rfl))
 t4:=underlying4
 a4:=isAgg4
 z4:=sizeOf4
 v4:=zeroValue4
 t20:=underlying20
 a20:=isAgg20
 z20:=sizeOf20
 v20:=zeroValue20
 t23:=underlying155
 a23:=isAgg155
 z23:=sizeOf155
 v23:=zeroValue155}
def Tryz.copyA_ren:Go.Shelf.Ren:=⟨fun|5=>180|n=>n,fun|23=>155|24=>155|26=>2|27=>2|0=>0|4=>4|n=>n,fun|n=>n⟩
theorem Tryz.copyA:Go.Proofs.SlLaysX.n5 prog Tryz.copyA_ren:={
 mixed:=by kernel_rfl
 f5:=⟨Tryz.f180.name,by decide,func180.trans (congrArg some (by kernel_rfl))⟩
 t0:=underlying0
 a0:=isAgg0
 z0:=sizeOf0
 v0:=zeroValue0
 t4:=underlying4
 a4:=isAgg4
 z4:=sizeOf4
 v4:=zeroValue4
 t23:=underlying155
 a23:=isAgg155
 z23:=sizeOf155
 v23:=zeroValue155
 t24:=underlying155
 a24:=isAgg155
 z24:=sizeOf155
 v24:=zeroValue155
 a26:=isAgg2
 z26:=sizeOf2
 a27:=isAgg2
 z27:=sizeOf2}
open Go Go.RowKit Go.Deep Go.Maps Go.Sort
def Ct(l:List Int):List Int:=l.mergeSort (fun x y=>decide (x<=y))
theorem Gd(l:List Int):(Ct l).length=l.length:=by simp[Ct]
theorem Rr(B:Nat)(v:Value)(l:List Int)(w:World)(h:Ax w B v l)(hl:l.length<=100000):
 Calls prog 130 #[v] w fun e w'=>e= .returned (.tuple #[])/\Ax w' B v (Ct l)/\w.grownBy w' v.ownBlock:=by
 rcases h.2 with⟨rfl,hn⟩|⟨g,cap,cur,rfl,hB,hb,h1,h2,h3,h4⟩
 ·have e0:l=[]:=List.eq_nil_of_length_eq_zero hn;subst e0;refine(AnyM.slices_Sort_int_none Tryz.sortA none 0 w).mono ?_;rintro e w' ⟨rfl,rfl⟩;have e0:Ct []=[]:=by simp[Ct]
  rw[e0];exact⟨rfl,h,⟨rfl,rfl,rfl,Nat.le_refl _,fun _ _ _=>rfl⟩⟩
 ·have hlt:g<w.heap.size:=(Array.getElem?_eq_some_iff.1 hb).1;refine(AnyM.slices_Sort_int Tryz.sortA g 0 cap l w (holds_of_blockI hb (by simpa using h4)) hlt (by omega)).mono ?_;rintro e w' ⟨rfl,n,os,rfl⟩;refine⟨rfl,?_,grownBy_sortedI _⟩;have:=ownsRow_sortedI (n:=n) (os:=os) (ts:=Ct l) (Gd l) hB hb h1 h2 h3;unfold Ax;rw[Gd];exact this
theorem KQ.sorted{w0 w w':World}{c:Nat}{v:Value}{l l':List Int}(h:KQ w0 c w v l)(ho:Ax w' (w0.heap.size+1+1+1) v l')(hg:w.grownBy w' v.ownBlock):KQ w0 c w' v l':=by
 have hne:∀k,k<w0.heap.size+1+1+1->some k≠v.ownBlock:=fun k hk e=>by have:=(World.ownsRow.lt h.o k e.symm).1;omega
 exact⟨h.b.trans (below_grown hg h.b.size (fun j hj=>by have:=(World.ownsRow.lt h.o j hj).1;omega)),h.q.grown hg (hne _ (by omega)),h.p.grown hg (hne _ (by omega)),h.r.grown hg (hne _ (by omega)),ho⟩
theorem Ax.low{w:World}{B B':Nat}{v:Value}{l:List Int}(h:Ax w B v l)(hB:B'<=B):Ax w B' v l:=by
 refine⟨h.1,?_⟩;rcases h.2 with hn|⟨g,cap,cur,hv,hb,rest⟩
 ·exact .inl hn
 ·exact .inr ⟨g,cap,cur,hv,by omega,rest⟩
theorem UW(w:World)(B c n:Nat)(ids ups:Nat->Int)(ob off:Nat)(nb:Nat->Nat)(kv:Nat->Value)(hN:Dz w B c n ids ob off nb kv (Bs ids ups n))(hr:Db ids n)(h0:∀j,j<n->ids j≠ups 0)
 (hw:∀i,i<n->(Lit.int .i64 (ids i)).wf=true)(hn:n<=271)(i:Nat)(hi:i<n)(hc:GM ids ups n i):
 Calls prog 98 #[.map (some c),.int .i64 (ids i)] w fun e w'=>∃v,e= .returned v/\Ax w' w v (Ct ((EJ ids ups n n i).map ids))/\Below w w w':=by
 have hst:=fun(W:World) (a:Addr) (x y:Array Value) (m:Mode)=>run_store prog W a (.func (.func 129) x y) m rfl;have n1:Nw (w.alloc (.cells #[.map (some c)] 61)):=⟨⟩;have b1:Below w w n1:=(Below.refl _ w).alloc (Nat.le_refl _) _;have LK:=(hN.map.below b1).look (hw i hi);rw[Dj hr hi]at LK;simp only[Option.map_some]at LK;have hlen:(EJ ids ups n n i).length<=n:=Gc (Ha hr h0 hi hc) (fun x hx=>((DO hr h0 hi).1 hx).1);have n2:No (.cells #[MN w.heap.size] 187):=⟨⟩;have n3:No (.cells #[.slice none 0 0] 38):=⟨⟩;have W0:KQ w c (((n1:World).alloc n3).alloc n2) (.slice none 0 0) []:=by
  refine⟨?_,?_,?_,?_,Ax.nil _ _⟩
  ·exact(b1.alloc b1.size _).alloc (b1.alloc b1.size _).size _
  ·exact((Ah.new w _).alloc _).alloc _
  ·have:=(Ah.new n1 n3).alloc n2;simpa using this
  ·have:=Ah.new ((n1:World).alloc n3) n2;simpa using this
 have C1:=hid (WP w B c n ids ups ob off nb kv hN hr h0 hw hn n i [] (.slice none 0 0) _ hi (fun j m hj e=>Mi hc hj e) (by simp;omega) W0);unfold MN at C1;simp only[List.nil_append]at C1;clear W0 hN h0 hw hr;go_enter func98,ntmps98
 go_wp2_with fail
 refine C1.out.mono ?_;rintro e w2 ⟨v2,rfl,h2⟩;have H2:=hid h2;have x1:_=some v2:=h2.p.c0 0 rfl;have C2:=hid (Rr _ v2 _ w2 h2.o (by rw[List.length_map];omega));clear h2 C1 LK;go_wp2_with fail
 refine C2.out.mono ?_;rintro e w3 ⟨rfl,o3,g3⟩;have H3:=hid (H2.out.sorted o3 g3);have x3:_=some v2:=H3.out.p.c0 0 rfl;clear o3 g3 x1 C2 H2;go_wp2;go_ret;exact⟨v2,rfl,H3.out.o.low (by omega),H3.out.b⟩
theorem Tq{n:Nat}{O:Nat->Ab}(h:BU n O=true):((((Ct ((EJ (fun i=>(O i).id) (fun i=>(O i).up) n n 0).map (fun i=>(O i).id))).length:Nat):Int)==(n:Int))=Ek (fun i=>(O i).id) (fun i=>(O i).up) n:=by
 rw[Gd,List.length_map];obtain⟨h1,_⟩:=Bv h;have hp:=WS (Bt h) (ups:=fun i=>(O i).up) (fun j hj=>by have:=D4 h j hj;have:=(Cg h).2.2;omega) (by omega);rw[Bool.eq_iff_iff,<-hp];simp only[beq_iff_eq];omega
theorem UV{n:Nat}{O:Nat->Ab}(h:BU n O=true):∃L:Nat,(Ct ((EJ (fun i=>(O i).id) (fun i=>(O i).up) n n 0).map (fun i=>(O i).id))).length=L/\L<=271/\((L:Int)==(n:Int))=Ek (fun i=>(O i).id) (fun i=>(O i).up) n:=by
 refine⟨_,rfl,?_,Tq h⟩;rw[Gd,List.length_map];obtain⟨h1,h2,_⟩:=Bv h;have:=Gc (Ha (Bt h) (ups:=fun i=>(O i).up) (fun j hj=>by have:=D4 h j hj;have:=(Cg h).2.2;omega) (f:=n) (i:=0) (by omega) FF) (fun x hx=>((DO (Bt h) (ups:=fun i=>(O i).up) (fun j hj=>by have:=D4 h j hj;have:=(Cg h).2.2;omega) (by omega)).1 hx).1);omega
theorem Rm(a:Option Addr)(n cap:Nat)(O:Nat->Ab)(w:World)(hcap:n<=cap)(hO:GP w a n O)(h2:BU n O=true)(hw:∀i,i<n->(Lit.int .i64 (O i).id).wf=true/\(Lit.int .i64 (O i).up).wf=true):
 Calls prog 58 #[.slice a n cap] w fun e w'=>e= .returned (.bool (Hf n O&&Ek (fun i=>(O i).id) (fun i=>(O i).up) n))/\Below w w w':=by
 obtain⟨on1,on2,_,_⟩:=Bv h2;have HO:=hid hO;obtain⟨ob,off,rfl,_,_⟩:=hO (by omega);have HW:=hid hw;have H2:=hid h2;obtain⟨L,eL,hL,rL⟩:=UV h2;have EL:=hid eL;have RL:=hid rL;clear eL rL;clear hO h2 hw;have C1:=hid (Iz ob off n cap O w on2 HO (Bt H2) HW);go_enter func58,ntmps58
 go_wp2_with fail
 refine C1.out.mono ?_;rintro e w1 ⟨c,nb,kv,rfl,hN,b1⟩;have HN:=hid hN;clear hN C1;have END:Hid (∀wr:World,Below w1 w1 wr->Calls prog 98 #[.map (some c),.int .i64 1] wr fun e w'=>∃a2 k2,e= .returned (.slice a2 L k2)/\Below wr wr w'):=hid (fun wr hb=>by
  have:=UW wr w c n (fun i=>(O i).id) (fun i=>(O i).up) ob off nb kv (HN.out.below hb) (Bt H2) (fun j hj=>by have:=D4 H2 j hj;have:=(Cg H2).2.2;omega) (fun i hi=>(HW i hi).1) on2 0 (by omega) FF;rw[(Cg H2.out).1]at this;refine this.mono ?_;rintro e w' ⟨v,rfl,o,b⟩;obtain⟨a2,k2,rfl⟩:=CF o;rw[EL.out];exact⟨a2,k2,rfl,b⟩)
 have c1:(n:Int)<=(cap:Int):=by omega
 have c2:(1:Int)<=(n:Int):=by omega
 by_cases hok:cap=1
 ·obtain rfl:n=1:=by omega
  subst hok;go_wp2;go_loopw [12] (fun i wr=>i= .int .i64 0/\Below w1 w1 wr) (fun i _=>0)
  case atStart=>exact⟨rfl,Below.refl _ _⟩
  case round=>
   obtain⟨rfl,hB⟩:=hrel;go_wp2_with fail
   refine(END wr hB).mono ?_;rintro e w2 ⟨a2,k2,rfl,b2⟩;go_wp2;go_ret;refine⟨Ag ?_,Af b1 (Af hB b2)⟩;rw[<-RL.out];simp[Hf]
 ·go_wp2;go_loopw [12] (fun i wr=>∃q:Nat,q<=n-1/\i= .int .i64 q/\Hid (∀p,p<q->Ev n O (O (p+1)).up=true)/\Below w1 w1 wr) (fun i _=>n-1-(intOf i).toNat)
  case atStart=>exact⟨0,Nat.zero_le _,rfl,hid (fun p hp=>by omega),Below.refl _ _⟩
  case round=>
   obtain⟨q,hq,rfl,HA,hB⟩:=hrel;by_cases hlt2:q<n-1
   ·obtain⟨_,_,ea,hlt0,hcc⟩:=(HO.out.below b1).below hB (by omega);cases ea;obtain⟨⟨q0,q1,q2,q3,q4,q5,q6,q7,q8,q9⟩,ht⟩:=hcc (q+1) (by omega);have ei:off+(q+1)*10=off+10+q*10:=(by omega);rw[ei]at q0 q1 q2 q3 q4 q5 q6 q7 q8 q9;have i2:(q:Int)<((n-1:Nat):Int):=(by omega);simp only[Av.val,AI.val,As.val]at q4 q6 q7 q9;have bC:Below wr wr (wr.alloc (.cells #[.int .i64 (O (q+1)).id,.int .i64 (O (q+1)).kind,.int .i64 (O (q+1)).up,.int .i64 (O (q+1)).b1,.slice (O (q+1)).c1.a (O (q+1)).c1.n (O (q+1)).c1.k,.string (O (q+1)).data,.slice (O (q+1)).items.a (O (q+1)).items.n (O (q+1)).items.k,.slice (O (q+1)).own.a (O (q+1)).own.n (O (q+1)).own.k,.int .i64 (O (q+1)).b2,.slice (O (q+1)).c2.a (O (q+1)).c2.n (O (q+1)).c2.k] 40)):=(Below.refl _ wr).alloc (Nat.le_refl _) _;have BC:=Af hB bC;have N1:=hid (HN.out.below BC);have LK:=N1.out.map.look (x:=(O (q+1)).up) (HW (q+1) (by omega)).2;cases hf:Bg (fun i=>(O i).id) n (O (q+1)).up with
    |none=>
     have BO:Hid (Ev n O (O (q+1)).up=false):=hid (by simp[Ev,hf]);rw[hf]at LK;simp only[Option.map_none]at LK;clear hcc ht ei hf;go_wp2;go_ret;exact⟨Ag (by rw[Hf,Gi hlt2 BO.out];rfl),Af b1 BC⟩
    |some u=>
     obtain⟨hu,_⟩:=AE hf;have BO:Hid (Ev n O (O (q+1)).up=((O u).kind==3)):=hid (by simp[Ev,hf]);rw[hf]at LK;simp only[Option.map_some]at LK;have k1:=(hcc u hu).1.c1;have k2:=(bC.cell (p:=⟨ob,off+u*10+1,none⟩) hlt0).trans k1;have n1:_=some (Value.pointer (some ⟨ob,off+u*10,none⟩)):=(N1.out.blk u hu).c0 0 rfl;clear hcc ht ei hf k1;cases c3:((O u).kind==3)with
     |false=>
      rw[c3]at BO;have c3':¬(O u).kind=3:=(by simpa using c3);go_wp2;go_ret;exact⟨Ag (by rw[Hf,Gi hlt2 BO.out];rfl),Af b1 BC⟩
     |true=>
      rw[c3]at BO;have c3':(O u).kind=3:=(by simpa using c3);rw[c3']at k2;clear c3;go_wp2;refine⟨⟨q+1,by omega,by go_num,hid (fun p hp=>?_),BC⟩,by simp[intOf];omega⟩;by_cases e:p=q
      ·subst e;exact BO.out
      ·exact HA.out p (by omega)
   ·have e:q=n-1:=(by omega);subst e;go_wp2_with fail
    refine(END wr hB).mono ?_;rintro e w2 ⟨a2,k2,rfl,b2⟩;go_wp2;go_ret;refine⟨Ag ?_,Af b1 (Af hB b2)⟩;rw[Hf,DK HA.out,Bool.true_and,<-RL.out]
theorem Lh(k:Aq)(w:World)(hk:k.at w)(hcap:k.on<=k.ok)(hw:∀i,i<k.on->(Lit.int .i64 (k.O i).id).wf=true/\(Lit.int .i64 (k.O i).up).wf=true):
 Calls prog 19 #[k.val] w fun e w'=>e= .returned (.bool (AZ k))/\Below w w w':=by
 have n1:No (.cells #[.slice k.ta k.tn k.tk,.slice k.oa k.on k.ok] 27):=⟨⟩;have hb0:=(Below.refl _ w).alloc (Nat.le_refl _) n1;have A0:=Ah.new w n1;have T0:=hid (hk.below hb0);have HW:=hid hw;have HC:=hid hcap;unfold Aq.val;obtain⟨x0,x1⟩:=A0.two;clear hk hw hcap;go_enter func19,ntmps19
 go_wp2_with fail
 refine(NF _ _ _ k.T _ T0.out.1 T0.out.2.2.1).mono ?_;rintro e w1 ⟨rfl,hb1⟩;have A1:=A0.below hb1;have T1:=hid (T0.out.below hb1);have B1:=Af hb0 hb1;clear x0 x1 A0 T0 hb0 hb1;obtain⟨x0,x1⟩:=A1.two;cases t1:Bo k.tn k.T with
 |false=>
  go_wp2;go_ret;exact⟨Ag (Gg t1).symm,B1⟩
 |true=>
 go_wp2_with fail
 refine(N0 _ _ _ k.O _ T1.out.2.1 T1.out.2.2.2).mono ?_;rintro e w2 ⟨rfl,hb2⟩;have A2:=A1.below hb2;have T2:=hid (T1.out.below hb2);have B2:=Af B1 hb2;clear x0 x1 A1 T1 B1 hb2;obtain⟨x0,x1⟩:=A2.two;cases t2:BU k.on k.O with
 |false=>
  go_wp2;go_ret;exact⟨Ag (by simp[AZ,t2]),B2⟩
 |true=>
 have C3:=hid (Od k w2 T2 HC t1 t2 (fun i hi=>(HW i hi).1));unfold Aq.val at C3;go_wp2_with fail
 refine C3.out.mono ?_;rintro e w3 ⟨rfl,hb3⟩;have A3:=A2.below hb3;have T3:=hid (T2.out.below hb3);have B3:=Af B2 hb3;clear x0 x1 A2 T2 B2 hb3 C3;obtain⟨x0,x1⟩:=A3.two;cases t3:FX k.tn k.T k.on k.O with
 |false=>
  go_wp2;go_ret;exact⟨Ag (by simp[AZ,t3]),B3⟩
 |true=>
 have C4:=hid (Rm k.oa k.on k.ok k.O w3 HC T3.out.2.2.2 t2 HW);have OK:Hid (AZ k=(Hf k.on k.O&&Ek (fun i=>(k.O i).id) (fun i=>(k.O i).up) k.on)):=hid (by simp[AZ,t1,t2,t3]);clear t1 t2 t3;go_wp2_with fail
 refine C4.out.mono ?_;rintro e w4 ⟨rfl,hb4⟩;have B4:=Af B3 hb4;rw[<-OK.out];clear x0 x1 A3 T3 B3 hb4 C4;go_wp2;go_ret;exact⟨rfl,B4⟩
def I6(O:Nat->Ab)(x:Int)(q:Nat):List Int:=((List.range q).filter (fun j=>(O j).up==x)).map (fun i=>(O i).id)
theorem Yp{O:Nat->Ab}{x:Int}{q:Nat}(h:(O q).up=x):I6 O x (q+1)=I6 O x q++[(O q).id]:=by
 simp[I6,List.range_succ,h]
theorem ZE{O:Nat->Ab}{x:Int}{q:Nat}(h:(O q).up≠x):I6 O x (q+1)=I6 O x q:=by
 simp[I6,List.range_succ,h]
theorem Um(O:Nat->Ab)(x:Int)(q:Nat):(I6 O x q).length<=q:=by
 unfold I6;rw[List.length_map];exact Nat.le_trans (List.length_filter_le _ _) (by simp)
theorem Xe{O:Nat->Ab}{n u:Nat}:I6 O (O u).id n=Bs (fun i=>(O i).id) (fun i=>(O i).up) n u:=rfl
theorem M3(k:Aq)(x:Int)(w:World)(hk:k.at w)(hn:k.on<=271):
 Calls prog 95 #[k.val,.int .i64 x] w fun e w'=>∃v,e= .returned v/\Ax w' w v (I6 k.O x k.on)/\Below w w w':=by
 have n1:No (.cells #[.slice k.ta k.tn k.tk,.slice k.oa k.on k.ok] 27):=⟨⟩;have hb0:=(Below.refl _ w).alloc (Nat.le_refl _) n1;have A0:=Ah.new w n1;have bm:=hb0.alloc hb0.size (.cells #[] 2);have A1:=A0.alloc (.cells #[] 2);have O1:=Ax.made (w.alloc n1) (w.heap.size+1) (by simp);have HT:=hid hk;unfold Aq.val;clear hk;go_enter func95,ntmps95
 go_wp2;generalize hW:((w.alloc n1).alloc (.cells #[] 2))=W at *;have O2:Ax W (w.heap.size+1) (.slice (some ⟨w.heap.size+1,0,none⟩) 0 0) []:=by simpa using O1
 clear hW hb0 A0 O1;go_loopw [5,6] (fun v i wr=>∃q:Nat,q<=k.on/\i= .int .i64 q/\Hid (Ax wr (w.heap.size+1) v (I6 k.O x q))/\Ah wr w n1/\Below w w wr) (fun _ i _=>k.on-(intOf i).toNat)
 case atStart=>exact⟨0,Nat.zero_le _,rfl,hid O2,A1,bm⟩
 case round=>
  clear O2 A1 bm;obtain⟨q,hq,rfl,HO,A,hB⟩:=hrel;obtain⟨x0,x1⟩:=A.two;by_cases hlt:q<k.on
  ·obtain⟨b,off,ea,hlt0,hcc⟩:=HT.out.2.2.2.below hB (by omega);have q0:=(hcc q hlt).1.c0;have q2:=(hcc q hlt).1.c2;rw[ea]at x1;have i1:(q:Int)<(k.on:Int):=(by omega);clear hcc ea;by_cases e:(k.O q).up=x
   ·have e':((k.O q).up==x)=true:=(by simpa using e);have EQ:=hid (Yp e);have hl:=Um k.O x q;have n2:No (.cells #[.int .i64 (k.O q).id] 2):=⟨⟩;have B1:Below w w (wr.alloc n2):=hB.alloc hB.size _;have AA:=A.alloc n2;have OA:=hid (Ax.alloc HO n2);have L1:=hid (Di.one (w:=wr) (k.O q).id);have s1:w.heap.size+1<=(wr.alloc n2).heap.size:=(by have:=A.lt;simp;omega);have FIN:Hid (∀w3:World,(wr.alloc n2).grownBy w3 u5.ownBlock->Ah w3 w (.cells #[.slice k.ta k.tn k.tk,.slice k.oa k.on k.ok] 27)/\Below w w w3):=hid (fun w3 g3=>⟨AA.grown g3 (fun e=>by have:=(World.ownsRow.lt OA _ e.symm).1;omega),B1.trans (below_grown g3 B1.size (fun j hj=>by have:=(World.ownsRow.lt OA j hj).1;omega))⟩);clear e HO;go_wp2_with(refine Dv _ rfl _ _ rfl (w.heap.size+1) u5 (I6 k.O x q) rfl OA _ 1 1 [(k.O q).id] rfl rfl L1 (by omega) s1 ?_;intro a3 c3 w3 o3 g3 v3)
    rw[<-EQ.out]at o3;obtain⟨f1,f2⟩:=FIN.out w3 g3;exact⟨⟨q+1,by omega,by go_num,hid (by first|exact o3|simpa[EQ.out]using o3),f1,f2⟩,by simp[intOf];omega⟩
   ·have e':((k.O q).up==x)=false:=(by simpa using e);have EQ:=hid (ZE e);clear e;go_wp2;exact⟨⟨q+1,by omega,by go_num,hid (by rw[EQ.out];exact HO.out),A,hB⟩,by simp[intOf];omega⟩
  ·have i1:¬(q:Int)<(k.on:Int):=(by omega);have e:q=k.on:=(by omega);have HO2:Hid (Ax wr (w.heap.size+1) u5 (I6 k.O x k.on)):=hid (by rw[<-e];exact HO.out);clear HO e;go_wp2;go_ret;exact⟨u5,rfl,HO2.out.low (by omega),hB⟩
theorem BD{k:Aq}(h:AZ k=true):Bo k.tn k.T=true/\BU k.on k.O=true/\FX k.tn k.T k.on k.O=true/\Hf k.on k.O=true/\Ek (fun i=>(k.O i).id) (fun i=>(k.O i).up) k.on=true:=by
 simp only[AZ,Bool.and_eq_true]at h;exact⟨h.1.1.1.1,h.1.1.1.2,h.1.1.2,h.1.2,h.2⟩
theorem VQ{k:Aq}(h:AZ k=true){c:Nat}(hc:c<k.on)(h0:c≠0):∃u,Bg (fun i=>(k.O i).id) k.on (k.O c).up=some u:=by
 have hu:=Eo (BD h).2.2.2.1 (c-1) (by omega);have e:c-1+1=c:=by omega
 simp only[e]at hu;unfold Ev at hu;split at hu
 ·rename_i u hu';exact⟨u,hu'⟩
 ·cases hu

theorem J5(L:List Int)(x:Int):(Dx L x).length<=L.length+1:=by
 unfold Dx;split
 ·omega
 ·simp;omega
theorem WZ(L:List Int)(x:Int):0<(Dx L x).length:=by
 unfold Dx;split
 ·rename_i h;have:=(List.getElem?_eq_some_iff.1 h).1;omega
 ·simp;omega
theorem Ms{L:List Int}{x y:Int}(h:y∈Dx L x):y∈L∨y=x:=by
 unfold Dx at h;split at h
 ·exact .inl h
 ·rw[List.mem_append,List.mem_append,List.mem_singleton]at h;rcases h with(h|h)|h
  ·exact .inl (List.mem_of_mem_take h)
  ·exact .inr h
  ·exact .inl (List.mem_of_mem_drop h)
theorem I4{L:List Int}{x:Int}(h:L.Pairwise (· <·)):(Dx L x).Pairwise (· <·):=by
 unfold Dx;split
 ·exact h
 ·rename_i hx;have hlo:∀y∈L.take (putAt L x),y<x:=by
   intro y hy;obtain⟨j,hj,rfl⟩:=List.getElem_of_mem hy;have hj':j<putAt L x:=(by simp at hj;omega);have:=List.not_of_lt_findIdx hj';simp at this;simpa using this
  have hhi:∀y∈L.drop (putAt L x),x<y:=by
   intro y hy;obtain⟨j,hj,rfl⟩:=List.getElem_of_mem hy;rw[List.getElem_drop];have hlen:putAt L x<L.length:=(by simp at hj;omega);have h0:¬L[putAt L x]<x:=by
    have:=List.findIdx_getElem (xs:=L) (p:=fun y=> !decide (y<x)) (w:=hlen);unfold putAt;simpa using this
   have h1:L[putAt L x]≠x:=fun e=>hx (by rw[List.getElem?_eq_getElem hlen,e]);by_cases ej:j=0
   ·subst ej;simp;omega
   ·have:=List.pairwise_iff_getElem.1 h (putAt L x) (putAt L x+j) hlen (by simp at hj;omega) (by omega);omega
  rw[List.append_assoc,List.pairwise_append];refine⟨h.sublist (List.take_sublist _ _),?_,?_⟩
  ·rw[List.singleton_append,List.pairwise_cons];exact⟨hhi,h.sublist (List.drop_sublist _ _)⟩
  ·intro y hy z hz;have h1:=hlo y hy;rw[List.singleton_append,List.mem_cons]at hz;rcases hz with rfl|hz
   ·exact h1
   ·have:=hhi z hz;omega
theorem Uk{L:List Int}{x y:Int}:y∈Dx L x↔y∈L∨y=x:=by
 refine⟨Ms,fun h=>?_⟩;unfold Dx;split
 ·rename_i e;rcases h with h|rfl
  ·exact h
  ·exact List.mem_of_getElem? e
 ·rcases h with h|rfl
  ·rw[<-List.take_append_drop (putAt L x) L]at h;rcases List.mem_append.1 h with h|h
   ·exact List.mem_append_left _ (List.mem_append_left _ h)
   ·exact List.mem_append_right _ h
  ·simp
theorem Ni:∀{l m:List Int},l.Pairwise (· <·)->m.Pairwise (· <·)->(∀x,x∈l↔x∈m)->l=m
 |[],[],_,_,_=>rfl
 |[],b::m,_,_,h=>by have:=(h b).2 List.mem_cons_self;cases this
 |a::l,[],_,_,h=>by have:=(h a).1 List.mem_cons_self;cases this
 |a::l,b::m,h1,h2,h=>by
  obtain⟨a1,a2⟩:=List.pairwise_cons.1 h1;obtain⟨b1,b2⟩:=List.pairwise_cons.1 h2;have e:a=b:=by
   rcases List.mem_cons.1 ((h a).1 List.mem_cons_self)with e|e
   ·exact e
   ·rcases List.mem_cons.1 ((h b).2 List.mem_cons_self)with e'|e'
    ·exact e'.symm
    ·have:=a1 b e';have:=b1 a e;omega
  subst e;rw[Ni a2 b2 fun x=>?_];constructor
  ·intro hx;rcases List.mem_cons.1 ((h x).1 (List.mem_cons_of_mem _ hx))with e|e
   ·subst e;have:=a1 x hx;omega
   ·exact e
  ·intro hx;rcases List.mem_cons.1 ((h x).2 (List.mem_cons_of_mem _ hx))with e|e
   ·subst e;have:=b1 x hx;omega
   ·exact e
theorem Kc{l:List Int}{x:Int}:x∈Ct l↔x∈l:=(List.mergeSort_perm l _).mem_iff
theorem SK{l:List Int}(h:l.Nodup):(Ct l).Pairwise (· <·):=by
 have h1:(Ct l).Pairwise (fun a b=>a<=b):=by
  have:=List.pairwise_mergeSort (le:=fun(x y:Int)=>decide (x<=y)) (fun a b c h1 h2=>by simp at *;omega) (fun a b=>by simp;omega) l;exact this.imp (fun h=>by simpa using h)
 have h2:(Ct l).Nodup:=(List.mergeSort_perm l _).nodup_iff.2 h;exact(h1.and h2).imp (fun{a b} ⟨h3,h4⟩=>by omega)
def Dy(L:List Int):List Int:=L.foldl Dx []
theorem QD(L:List Int):(Dy L).Pairwise (· <·):=by
 unfold Dy;have:∀(M:List Int),M.Pairwise (· <·)->(L.foldl Dx M).Pairwise (· <·):=by
  induction L with
  |nil=>intro M h;exact h
  |cons a L ih=>intro M h;exact ih _ (I4 h)
 exact this [] List.Pairwise.nil
theorem Tf(L:List Int)(x:Int):x∈Dy L↔x∈L:=by
 unfold Dy;have:∀(M:List Int),x∈L.foldl Dx M↔x∈M∨x∈L:=by
  induction L with
  |nil=>intro M;simp
  |cons a L ih=>intro M;rw[List.foldl_cons,ih,Uk,List.mem_cons];exact or_assoc
 rw[this []];simp
theorem SF(L:List Int):(Dy L).length<=L.length:=by
 unfold Dy;have:∀(M:List Int),(L.foldl Dx M).length<=M.length+L.length:=by
  induction L with
  |nil=>intro M;simp
  |cons a L ih=>intro M;rw[List.foldl_cons];have:=ih (Dx M a);have:=J5 M a;simp only[List.length_cons];omega
 simpa using this []
section
variable {ids ups:Nat->Int}{n u:Nat}
structure Ud(ids ups:Nat->Int)(n u t:Nat)(Q:List Nat):Prop where
 nodup:Q.Nodup
 head:Q[0]? =some u
 mem:∀j∈Q,j<n/\∃m,Bi ids ups n m j=some u
 closed:∀s a,s<t->Q[s]? =some a->∀c∈Dh ids ups n a,c∈Q
 origin:∀s c,0<s->Q[s]? =some c->∃r a,r<t/\Q[r]? =some a/\IM ids ups n c=some a
theorem Ud.start(hu:u<n):Ud ids ups n u 0 [u]:=by
 refine⟨by simp,rfl,fun j hj=>?_,fun s a hs=>by omega,fun s c hs e=>?_⟩
 ·simp at hj;subst hj;exact⟨hu,0,rfl⟩
 ·cases s with
  |zero=>omega
  |succ s=>simp at e
theorem Ud.step(hr:Db ids n)(h0:∀j,j<n->ids j≠ups 0)(hc:GM ids ups n u){t a:Nat}{Q:List Nat}(h:Ud ids ups n u t Q)(ht:Q[t]? =some a):Ud ids ups n u (t+1) (Q++Dh ids ups n a):=by
 have hta:t<Q.length:=(List.getElem?_eq_some_iff.1 ht).1;obtain⟨han,ma,hma⟩:=h.mem a (List.mem_of_getElem? ht);have kid:∀c,c∈Dh ids ups n a->c<n/\IM ids ups n c=some a:=fun c hc=>(E7 hr h0 han).1 hc;have old:∀{s x},Q[s]? =some x->(Q++Dh ids ups n a)[s]? =some x:=fun{s x} e=>by
  rw[List.getElem?_append_left (List.getElem?_eq_some_iff.1 e).1];exact e
 refine⟨?_,old h.head,fun j hj=>?_,fun s b hs e c hcb=>?_,fun s c hs e=>?_⟩
 ·rw[List.nodup_append];refine⟨h.nodup,List.Nodup.sublist List.filter_sublist List.nodup_range,fun x hx y hy exy=>?_⟩;subst exy;obtain⟨_,px⟩:=kid x hy;obtain⟨s,hs,es⟩:=List.getElem_of_mem hx;by_cases s0:s=0
  ·subst s0;have:x=u:=(by have:=h.head;rw[List.getElem?_eq_getElem hs,es]at this;simpa using this);subst this;exact hc ma (by simp only[Bi,px,Option.bind_some];exact hma)
  ·obtain⟨r,b,hrt,hb,pb⟩:=h.origin s x (by omega) (by rw[List.getElem?_eq_getElem hs,es]);rw[px]at pb;have eab:a=b:=(by simpa using pb);subst eab;have hrl:=(List.getElem?_eq_some_iff.1 hb).1;have e1:=(List.getElem?_eq_some_iff.1 hb).2;have e2:=(List.getElem?_eq_some_iff.1 ht).2;have:=(List.getElem_inj (h₀:=hrl) (h₁:=hta) h.nodup).1 (e1.trans e2.symm);omega
 ·rcases List.mem_append.1 hj with hj|hj
  ·exact h.mem j hj
  ·obtain⟨h1,h2⟩:=kid j hj;exact⟨h1,ma+1,by simp only[Bi,h2,Option.bind_some];exact hma⟩
 ·by_cases est:s=t
  ·subst est;rw[old ht]at e;have:a=b:=(by simpa using e);subst this;exact List.mem_append_right _ hcb
  ·have hsl:s<Q.length:=(by omega);rw[List.getElem?_append_left hsl]at e;exact List.mem_append_left _ (h.closed s b (by omega) e c hcb)
 ·by_cases hsl:s<Q.length
  ·rw[List.getElem?_append_left hsl]at e;obtain⟨r,b,h1,h2,h3⟩:=h.origin s c hs e;exact⟨r,b,by omega,old h2,h3⟩
  ·rw[List.getElem?_append_right (by omega)]at e;exact⟨t,a,by omega,old ht,(kid c (List.mem_of_getElem? e)).2⟩
theorem Ud.len{t:Nat}{Q:List Nat}(h:Ud ids ups n u t Q):Q.length<=n:=Gc h.nodup (fun x hx=>(h.mem x hx).1)
theorem Ud.all(hr:Db ids n)(h0:∀j,j<n->ids j≠ups 0){Q:List Nat}(h:Ud ids ups n u Q.length Q)(j:Nat):j∈Q↔j<n/\∃m,Bi ids ups n m j=some u:=by
 refine⟨h.mem j,?_⟩;rintro⟨hj,m,e⟩;induction m generalizing j with
 |zero=>
  simp only[Bi,Option.some.injEq]at e;subst e;exact List.mem_of_getElem? h.head
 |succ m ih=>
  simp only[Bi]at e;cases ep:IM ids ups n j with
  |none=>simp[ep]at e
  |some p=>
   simp only[ep,Option.bind_some]at e;have hp:=ih p (MQ ep) e;obtain⟨s,hs,es⟩:=List.getElem_of_mem hp;exact h.closed s p hs (by rw[List.getElem?_eq_getElem hs,es]) j ((E7 hr h0 (MQ ep)).2 ⟨hj,ep⟩)
theorem XZ(hr:Db ids n)(h0:∀j,j<n->ids j≠ups 0)(hu:u<n)(hc:GM ids ups n u){Q:List Nat}(h:Ud ids ups n u Q.length Q):Dy (Q.map ids)=Ct ((EJ ids ups n n u).map ids):=by
 have inj:∀{l:List Nat},l.Nodup->(∀x∈l,x<n)->(l.map ids).Nodup:=fun{l} hl hx=>by
  rw[List.Nodup,List.pairwise_map];refine List.Pairwise.imp_of_mem ?_ hl;intro a b ha hb hab e;exact hab (hr.inj (hx a ha) (hx b hb) e)
 refine Ni (QD _) (SK (inj (Ha hr h0 hu hc) (fun x hx=>((DO hr h0 hu).1 hx).1))) fun x=>?_;rw[Tf,Kc,List.mem_map,List.mem_map];constructor
 ·rintro⟨j,hj,rfl⟩;obtain⟨h1,m,h2⟩:=h.mem j hj;exact⟨j,(DO hr h0 hu).2 ⟨h1,m,Mi hc h1 h2,h2⟩,rfl⟩
 ·rintro⟨j,hj,rfl⟩;obtain⟨h1,m,_,h2⟩:=(DO hr h0 hu).1 hj;exact⟨j,(h.all hr h0 j).2 ⟨h1,m,h2⟩,rfl⟩
end
end Go.Proofs.YtphddbnadcjhgaaGreatDoor
