import Derived.Shelf.SlIterI.Nil
import Derived.Shelf.SortM.Plain
import Derived.Shelf.SortM.SortNone
import Derived.Ground.GgzProg
import Derived.Ground.SlgmProg
import Derived.Ground.SlmcProg
import Derived.Ground.SlmpProg
import Derived.Shelf.SlMaps.Clone
import Derived.Shelf.SlMaps.Copy
import Derived.Sort.OwnSortedInts
import Derived.LaidEql
import Derived.Stop.Asserts
import Derived.RowKitTokens
import Derived.Test.YtdaccbddcjlkpaaGreatDoorKB10p
set_option maxRecDepth 100000
set_option maxHeartbeats 16000000
namespace Go.Proofs.YtdaccbddcjlkpaaGreatDoor
open Go.Shelf Go.Proofs.Tryz
def Tryz.keysA_ren:Go.Shelf.Ren:=⟨fun|7=>224|10=>236|n=>n,fun|23=>108|26=>2|3=>2|28=>269|0=>0|27=>268|33=>194|4=>4|n=>n,fun|n=>n⟩
theorem Tryz.keysA:Go.Proofs.SlLaysZI.n7 prog Tryz.keysA_ren:={
 mixed:=by kernel_rfl
 f7:=⟨Tryz.f224.name,by decide,func224.trans (congrArg some (by kernel_rfl))⟩
 f10:=⟨Tryz.f236.name,by decide,func236.trans (congrArg some (by kernel_rfl))⟩
 t0:=underlying0
 a0:=isAgg0
 z0:=sizeOf0
 v0:=zeroValue0
 t4:=underlying4
 a4:=isAgg4
 z4:=sizeOf4
 v4:=zeroValue4
 t23:=underlying108
 a23:=isAgg108
 z23:=sizeOf108
 v23:=zeroValue108
 t26:=underlying2
 a26:=isAgg2
 z26:=sizeOf2
 v26:=zeroValue2
 t27:=underlying268
 a27:=isAgg268
 z27:=sizeOf268
 v27:=zeroValue268
 t28:=underlying269
 a28:=isAgg269
 z28:=sizeOf269
 v28:=zeroValue269
 t33:=underlying194
 a33:=isAgg194
 z33:=sizeOf194
 v33:=zeroValue194}
def Tryz.sortedA_ren:Go.Shelf.Ren:=⟨fun|6=>223|8=>235|9=>108|11=>244|13=>132|12=>131|23=>160|24=>161|14=>151|15=>152|16=>153|17=>154|18=>155|19=>156|20=>157|21=>158|22=>159|25=>189|26=>190|27=>191|28=>192|29=>193|30=>194|31=>204|n=>n,fun|26=>2|28=>269|24=>51|0=>0|3=>3|37=>123|48=>80|50=>77|4=>4|40=>225|39=>224|45=>230|5=>5|9=>9|51=>258|55=>261|57=>273|58=>274|33=>194|n=>n,fun|n=>n⟩
theorem Tryz.sortedA:Go.Proofs.SlLaysZI.n6 prog Tryz.sortedA_ren:={
 mixed:=by kernel_rfl
 f6:=⟨Tryz.f223.name,by decide,func223.trans (congrArg some (by kernel_rfl))⟩
 f8:=⟨Tryz.f235.name,by decide,func235.trans (congrArg some (by kernel_rfl))⟩
 f11:=⟨Tryz.f244.name,by decide,func244.trans (congrArg some (by kernel_rfl))⟩
 t0:=underlying0
 a0:=isAgg0
 z0:=sizeOf0
 v0:=zeroValue0
 t24:=underlying51
 a24:=isAgg51
 z24:=sizeOf51
 v24:=zeroValue51
 t26:=underlying2
 a26:=isAgg2
 z26:=sizeOf2
 v26:=zeroValue2
 t28:=underlying269
 a28:=isAgg269
 z28:=sizeOf269
 v28:=zeroValue269
 i26:=by kernel_rfl}
def Tryz.sortA_ren:Go.Shelf.Ren:=⟨fun|5=>108|8=>132|7=>131|19=>160|20=>161|10=>151|11=>152|12=>153|13=>154|14=>155|15=>156|16=>157|17=>158|18=>159|30=>189|31=>190|32=>191|33=>192|34=>193|35=>194|40=>204|n=>n,fun|23=>51|25=>2|3=>3|32=>123|22=>51|0=>0|44=>80|46=>77|4=>4|36=>225|35=>224|41=>230|5=>5|9=>9|53=>258|57=>261|63=>273|64=>274|n=>n,fun|n=>n⟩
theorem Tryz.sortA:Go.Proofs.SlLaysM.n5 prog Tryz.sortA_ren:={
 mixed:=by kernel_rfl
 f5:=⟨Tryz.f108.name,by decide,func108.trans (congrArg some (by kernel_rfl))⟩
 f7:=⟨Tryz.f131.name,by decide,func131.trans (congrArg some (by kernel_rfl))⟩
 f8:=func132.trans (congrArg some (by kernel_rfl))
 f10:=⟨Tryz.f151.name,by decide,func151.trans (congrArg some (by kernel_rfl))⟩
 f11:=⟨Tryz.f152.name,by decide,func152.trans (congrArg some (by kernel_rfl))⟩
 f12:=⟨Tryz.f153.name,by decide,func153.trans (congrArg some (by kernel_rfl))⟩
 f13:=⟨Tryz.f154.name,by decide,func154.trans (congrArg some (by kernel_rfl))⟩
 f14:=⟨Tryz.f155.name,by decide,func155.trans (congrArg some (by kernel_rfl))⟩
 f15:=⟨Tryz.f156.name,by decide,func156.trans (congrArg some (by kernel_rfl))⟩
 f16:=⟨Tryz.f157.name,by decide,func157.trans (congrArg some (by kernel_rfl))⟩
 f17:=⟨Tryz.f158.name,by decide,func158.trans (congrArg some (by kernel_rfl))⟩
 f18:=⟨Tryz.f159.name,by decide,func159.trans (congrArg some (by kernel_rfl))⟩
 f19:=func160.trans (congrArg some (by kernel_rfl))
 f20:=func161.trans (congrArg some (by kernel_rfl))
 f30:=⟨Tryz.f189.name,by decide,func189.trans (congrArg some (by kernel_rfl))⟩
 f31:=func190.trans (congrArg some (by kernel_rfl))
 f32:=func191.trans (congrArg some (by kernel_rfl))
 f33:=⟨Tryz.f192.name,by decide,func192.trans (congrArg some (by kernel_rfl))⟩
 f34:=⟨Tryz.f193.name,by decide,func193.trans (congrArg some (by kernel_rfl))⟩
 f35:=⟨Tryz.f194.name,by decide,func194.trans (congrArg some (by kernel_rfl))⟩
 f40:=⟨Tryz.f204.name,by decide,func204.trans (congrArg some (by kernel_rfl))⟩
 t0:=underlying0
 a0:=isAgg0
 z0:=sizeOf0
 v0:=zeroValue0
 t3:=underlying3
 a3:=isAgg3
 z3:=sizeOf3
 v3:=zeroValue3
 t4:=underlying4
 a4:=isAgg4
 z4:=sizeOf4
 v4:=zeroValue4
 t5:=underlying5
 a5:=isAgg5
 z5:=sizeOf5
 v5:=zeroValue5
 t9:=underlying9
 a9:=isAgg9
 z9:=sizeOf9
 v9:=zeroValue9
 t22:=underlying51
 a22:=isAgg51
 z22:=sizeOf51
 v22:=zeroValue51
 t23:=underlying51
 a23:=isAgg51
 z23:=sizeOf51
 v23:=zeroValue51
 t25:=underlying2
 a25:=isAgg2
 z25:=sizeOf2
 v25:=zeroValue2
 t32:=underlying123
 a32:=isAgg123
 z32:=sizeOf123
 v32:=zeroValue123
 t35:=underlying224
 a35:=isAgg224
 z35:=sizeOf224
 v35:=zeroValue224
 t36:=underlying225
 a36:=isAgg225
 z36:=sizeOf225
 v36:=zeroValue225
 t41:=underlying230
 a41:=isAgg230
 z41:=sizeOf230
 v41:=zeroValue230
 t44:=underlying80
 a44:=isAgg80
 z44:=sizeOf80
 v44:=zeroValue80
 t46:=underlying77
 a46:=isAgg77
 z46:=sizeOf77
 v46:=zeroValue77
 t53:=underlying258
 a53:=isAgg258
 z53:=sizeOf258
 v53:=zeroValue258
 t57:=underlying261
 a57:=isAgg261
 z57:=sizeOf261
 v57:=zeroValue261
 t63:=underlying273
 a63:=isAgg273
 z63:=sizeOf273
 v63:=zeroValue273
 t64:=underlying274
 a64:=isAgg274
 z64:=sizeOf274
 v64:=zeroValue274}
def Tryz.cloneA_ren:Go.Shelf.Ren:=⟨fun|5=>221|7=>234|n=>n,fun|23=>108|25=>2|3=>2|4=>4|20=>20|n=>n,fun|n=>n⟩
theorem Tryz.cloneA:Go.Proofs.SlLaysW.n5 prog Tryz.cloneA_ren:={
 mixed:=by kernel_rfl
 f5:=⟨Tryz.f221.name,by decide,func221.trans (congrArg some (by kernel_rfl))⟩
 f7:=func234.trans (congrArg some (by kernel_rfl))
 t4:=underlying4
 a4:=isAgg4
 z4:=sizeOf4
 v4:=zeroValue4
 t20:=underlying20
 a20:=isAgg20
 z20:=sizeOf20
 v20:=zeroValue20
 t23:=underlying108
 a23:=isAgg108
 z23:=sizeOf108
 v23:=zeroValue108}
def Tryz.copyA_ren:Go.Shelf.Ren:=⟨fun|5=>222|n=>n,fun|23=>108|24=>108|26=>2|27=>2|0=>0|4=>4|n=>n,fun|n=>n⟩
theorem Tryz.copyA:Go.Proofs.SlLaysX.n5 prog Tryz.copyA_ren:={
 mixed:=by kernel_rfl
 f5:=⟨Tryz.f222.name,by decide,func222.trans (congrArg some (by kernel_rfl))⟩
 t0:=underlying0
 a0:=isAgg0
 z0:=sizeOf0
 v0:=zeroValue0
 t4:=underlying4
 a4:=isAgg4
 z4:=sizeOf4
 v4:=zeroValue4
 t23:=underlying108
 a23:=isAgg108
 z23:=sizeOf108
 v23:=zeroValue108
 t24:=underlying108
 a24:=isAgg108
 z24:=sizeOf108
 v24:=zeroValue108
 a26:=isAgg2
 z26:=sizeOf2
 a27:=isAgg2
 z27:=sizeOf2}
open Go Go.RowKit Go.Deep Go.Maps Go.Sort
open Go.World renaming ownsRow→qq
variable {w:World}{v:Value}{l:List Int}
def CM(l:List Int):List Int:=l.mergeSort (fun x y=>decide (x<=y))
theorem Hg(l:List Int):(CM l).length=l.length:=by simp[CM]
theorem TE(B:Nat)(v:Value)(l:List Int)(w:World)(h:AI w B v l)(hl:l.length<=100000):
 Calls prog 108 #[v] w fun e w'=>e= .returned (.tuple #[])/\AI w' B v (CM l)/\w.grownBy w' v.ownBlock:=by
 rcases h.2 with⟨rfl,hn⟩|⟨g,cap,cur,rfl,hB,hb,h1,h2,h3,h4⟩
 ·have e0:l=[]:=List.eq_nil_of_length_eq_zero hn;subst e0;refine(AnyM.slices_Sort_int_none Tryz.sortA none 0 w).mono ?_;rintro e w' ⟨rfl,rfl⟩;have e0:CM []=[]:=by simp[CM]
  rw[e0];exact⟨rfl,h,⟨rfl,rfl,rfl,Nat.le_refl _,fun _ _ _=>rfl⟩⟩
 ·have hlt:g<w.heap.size:=(Array.getElem?_eq_some_iff.1 hb).1;refine(AnyM.slices_Sort_int Tryz.sortA g 0 cap l w (holds_of_blockI hb (by simpa using h4)) hlt qQ).mono ?_;rintro e w' ⟨rfl,n,os,rfl⟩;refine⟨rfl,?_,grownBy_sortedI _⟩;have:=ownsRow_sortedI (n:=n) (os:=os) (ts:=CM l) (Hg l) hB hb h1 h2 h3;unfold AI;rw[Hg];exact this
theorem MH.sorted{w0 w':World}{c:Nat}{l':List Int}(h:MH w0 c w v l)(ho:AI w' (w0.heap.size+1+1+1) v l')(hg:w.grownBy w' v.ownBlock):MH w0 c w' v l':=by
 have hne:∀k,k<w0.heap.size+1+1+1->some k≠v.ownBlock:=fun k hk e=>by have:=(qq.lt h.o k e.symm).1;omega
 exact⟨h.b.trans (below_grown hg h.b.size (fun j hj=>by have:=(qq.lt h.o j hj).1;omega)),h.q.grown hg (hne _ qQ),h.p.grown hg (hne _ qQ),h.r.grown hg (hne _ qQ),ho⟩
theorem AI.low{B B':Nat}(h:AI w B v l)(hB:B'<=B):AI w B' v l:=by
 refine⟨h.1,?_⟩;rcases h.2 with hn|⟨g,cap,cur,hv,hb,rest⟩
 ·exact .inl hn
 ·exact .inr ⟨g,cap,cur,hv,by omega,rest⟩
theorem Rb(w:World)(B c n:Nat)(ids ups:Nat->Int)(ob off:Nat)(nb:Nat->Nat)(kv:Nat->Value)(hN:Ei w B c n ids ob off nb kv (BZ ids ups n))(hr:DK ids n)(h0:∀j,j<n->ids j≠ups 0)
 (hw:∀i,i<n->(Lit.int .i64 (ids i)).wf=true)(hn:n<=271)(i:Nat)(hi:i<n)(hc:Ii ids ups n i):
 Calls prog 62 #[.map (some c),.int .i64 (ids i)] w fun e w'=>∃v,e= .returned v/\AI w' w v (CM ((Gk ids ups n n i).map ids))/\Below w w w':=by
 have hst:=fun(W:World) (a:Addr) (x y:Array Value) (m:Mode)=>run_store prog W a (.func (.func 107) x y) m rfl;have n1:Nw (w.alloc (.cells #[.map (some c)] 109)):=⟨⟩;have b1:Below w w n1:=Bg w _;have LK:=(hN.map.below b1).look (hw i hi);rw[Eg hr hi]at LK;simp only[Option.map_some]at LK;have hlen:(Gk ids ups n n i).length<=n:=Hh (IR hr h0 hi hc) (fun x hx=>((Fe hr h0 hi).1 hx).1);have n2:No (.cells #[Oy w.heap.size] 161):=⟨⟩;have n3:No (.cells #[.slice none 0 0] 51):=⟨⟩;have W0:MH w c (((n1:World).alloc n3).alloc n2) (.slice none 0 0) []:=by
  refine⟨?_,?_,?_,?_,AI.nil _ _⟩
  ·exact(b1.alloc b1.size _).alloc (b1.alloc b1.size _).size _
  ·exact((Ag.new w _).alloc _).alloc _
  ·have:=(Ag.new n1 n3).alloc n2;simpa using this
  ·have:=Ag.new ((n1:World).alloc n3) n2;simpa using this
 have C1:=qC (YY w B c n ids ups ob off nb kv hN hr h0 hw hn n i [] (.slice none 0 0) _ hi (fun j m hj e=>Pn hc hj e) sO W0);unfold Oy at C1;simp only[List.nil_append]at C1;clear W0 hN h0 hw hr;go_enter func62,ntmps62
 go_wp2_with fail
 refine C1.out.mono ?_;rintro e w2 ⟨v2,rfl,h2⟩;have H2:=qC h2;have x1:_=some v2:=h2.p.c0 0 rfl;have C2:=qC (TE _ v2 _ w2 h2.o (by rw[List.length_map];omega));clear h2 C1 LK;go_wp2_with fail
 refine C2.out.mono ?_;rintro e w3 ⟨rfl,o3,g3⟩;have H3:=qC (H2.out.sorted o3 g3);have x3:_=some v2:=H3.out.p.c0 0 rfl;clear o3 g3 x1 C2 H2;go_wp2;go_ret;exact⟨v2,rfl,H3.out.o.low qQ,H3.out.b⟩
open _root_.List renaming length_map→kX
theorem Wh{n:Nat}{O:Nat->Ab}(h:Cr n O=true):((((CM ((Gk (fun i=>(O i).id) (fun i=>(O i).up) n n 0).map (fun i=>(O i).id))).length:Nat):Int)==(n:Int))=FC (fun i=>(O i).id) (fun i=>(O i).up) n:=by
 rw[Hg,kX];obtain⟨h1,_⟩:=Cv h;have hp:=aK (Ch h) (ups:=fun i=>(O i).up) (fun j hj=>by have:=Et h j hj;have:=(Cy h).2.2;omega) qQ;rw[Bool.eq_iff_iff,<-hp];simp only[beq_iff_eq];omega
theorem YL{n:Nat}{O:Nat->Ab}(h:Cr n O=true):∃L:Nat,(CM ((Gk (fun i=>(O i).id) (fun i=>(O i).up) n n 0).map (fun i=>(O i).id))).length=L/\L<=271/\((L:Int)==(n:Int))=FC (fun i=>(O i).id) (fun i=>(O i).up) n:=by
 refine⟨_,rfl,?_,Wh h⟩;rw[Hg,kX];obtain⟨h1,h2,_⟩:=Cv h;have:=Hh (IR (Ch h) (ups:=fun i=>(O i).up) (fun j hj=>by have:=Et h j hj;have:=(Cy h).2.2;omega) (f:=n) (i:=0) qQ Gt) (fun x hx=>((Fe (Ch h) (ups:=fun i=>(O i).up) (fun j hj=>by have:=Et h j hj;have:=(Cy h).2.2;omega) qQ).1 hx).1);omega
theorem Ue(a:Option Addr)(n cap:Nat)(O:Nat->Ab)(w:World)(hcap:n<=cap)(hO:Io w a n O)(h2:Cr n O=true)(hw:∀i,i<n->(Lit.int .i64 (O i).id).wf=true/\(Lit.int .i64 (O i).up).wf=true):
 Calls prog 33 #[.slice a n cap] w fun e w'=>e= .returned (.bool (IJ n O&&FC (fun i=>(O i).id) (fun i=>(O i).up) n))/\Below w w w':=by
 obtain⟨on1,on2,_,_⟩:=Cv h2;have HO:=qC hO;obtain⟨ob,off,rfl,_,_⟩:=hO qQ;have HW:=qC hw;have H2:=qC h2;obtain⟨L,eL,hL,rL⟩:=YL h2;have EL:=qC eL;have RL:=qC rL;clear eL rL;clear hO h2 hw;have C1:=qC (M3 ob off n cap O w on2 HO (Ch H2) HW);go_enter func33,ntmps33
 go_wp2_with fail
 refine C1.out.mono ?_;rintro e w1 ⟨c,nb,kv,rfl,hN,b1⟩;have HN:=qC hN;clear hN C1;have END:Hid (∀wr:World,Below w1 w1 wr->Calls prog 62 #[.map (some c),.int .i64 1] wr fun e w'=>∃a2 k2,e= .returned (.slice a2 L k2)/\Below wr wr w'):=qC (fun wr hb=>by
  have:=Rb wr w c n (fun i=>(O i).id) (fun i=>(O i).up) ob off nb kv (HN.out.below hb) (Ch H2) (fun j hj=>by have:=Et H2 j hj;have:=(Cy H2).2.2;omega) (fun i hi=>(HW i hi).1) on2 0 qQ Gt;rw[(Cy H2.out).1]at this;refine this.mono ?_;rintro e w' ⟨v,rfl,o,b⟩;obtain⟨a2,k2,rfl⟩:=CG o;rw[EL.out];exact⟨a2,k2,rfl,b⟩)
 have c1:(n:Int)<=(cap:Int):=by omega
 have c2:(1:Int)<=(n:Int):=by omega
 by_cases hok:cap=1
 ·obtain rfl:n=1:=by omega
  subst hok;go_wp2;go_loopw [12] (fun i wr=>i= .int .i64 0/\Below w1 w1 wr) (fun i _=>0)
  case atStart=>exact⟨rfl,Below.refl _ _⟩
  case round=>
   obtain⟨rfl,hB⟩:=hrel;go_wp2_with fail
   refine(END wr hB).mono ?_;rintro e w2 ⟨a2,k2,rfl,b2⟩;go_wp2;go_ret;refine⟨Ah ?_,Af b1 (Af hB b2)⟩;rw[<-RL.out];simp[IJ]
 ·go_wp2;go_loopw [12] (fun i wr=>∃q:Nat,q<=n-1/\i= .int .i64 q/\Hid (∀p,p<q->Ga n O (O (p+1)).up=true)/\Below w1 w1 wr) (fun i _=>n-1-(intOf i).toNat)
  case atStart=>exact⟨0,Nat.zero_le _,rfl,qC (fun p hp=>by omega),Below.refl _ _⟩
  case round=>
   obtain⟨q,hq,rfl,HA,hB⟩:=hrel;by_cases hlt2:q<n-1
   ·obtain⟨_,_,ea,hlt0,hcc⟩:=(HO.out.below b1).below hB qQ;cases ea;obtain⟨⟨q0,q1,q2,q3,q4,q5,q6,q7,q8,q9⟩,ht⟩:=hcc (q+1) qQ;have ei:off+(q+1)*10=off+10+q*10:=qQ;rw[ei]at q0 q1 q2 q3 q4 q5 q6 q7 q8 q9;have i2:(q:Int)<((n-1:Nat):Int):=qQ;simp only[As.val,AJ.val,AE.val]at q4 q6 q7 q9;have bC:Below wr wr (wr.alloc (.cells (O (q+1)) 59)):=Bg wr _;have BC:=Af hB bC;have N1:=qC (HN.out.below BC);have LK:=N1.out.map.look (x:=(O (q+1)).up) (HW (q+1) qQ).2;cases hf:Bq (fun i=>(O i).id) n (O (q+1)).up with
    |none=>
     have BO:Hid (Ga n O (O (q+1)).up=false):=qC (by simp[Ga,hf]);rw[hf]at LK;simp only[Option.map_none]at LK;clear hcc ht ei hf;go_wp2;go_ret;exact⟨Ah (by rw[IJ,Hs hlt2 BO.out];rfl),Af b1 BC⟩
    |some u=>
     obtain⟨hu,_⟩:=AH hf;have BO:Hid (Ga n O (O (q+1)).up=((O u).kind==3)):=qC (by simp[Ga,hf]);rw[hf]at LK;simp only[Option.map_some]at LK;have k1:=(hcc u hu).1.c1;have k2:=(bC.cell (p:=⟨ob,off+u*10+1,none⟩) hlt0).trans k1;have n1:_=some (Value.pointer (some ⟨ob,off+u*10,none⟩)):=(N1.out.blk u hu).c0 0 rfl;clear hcc ht ei hf k1;cases c3:((O u).kind==3)with
     |false=>
      rw[c3]at BO;have c3':¬(O u).kind=3:=(by simpa using c3);go_wp2;go_ret;exact⟨Ah (by rw[IJ,Hs hlt2 BO.out];rfl),Af b1 BC⟩
     |true=>
      rw[c3]at BO;have c3':(O u).kind=3:=(by simpa using c3);rw[c3']at k2;clear c3;go_wp2;refine⟨⟨q+1,by omega,by go_num,qC (fun p hp=>?_),BC⟩,by simp[intOf];omega⟩;by_cases e:p=q
      ·subst e;exact BO.out
      ·exact HA.out p qQ
   ·have e:q=n-1:=qQ;subst e;go_wp2_with fail
    refine(END wr hB).mono ?_;rintro e w2 ⟨a2,k2,rfl,b2⟩;go_wp2;go_ret;refine⟨Ah ?_,Af b1 (Af hB b2)⟩;rw[IJ,Fc HA.out,Bool.true_and,<-RL.out]
theorem JC(k:Av)(w:World)(hk:k.at w)(hcap:k.on<=k.ok)(hw:∀i,i<k.on->(Lit.int .i64 (k.O i).id).wf=true/\(Lit.int .i64 (k.O i).up).wf=true):
 Calls prog 12 #[k.val] w fun e w'=>e= .returned (.bool (Bh k))/\Below w w w':=by
 have n1:No (.cells #[.slice k.ta k.tn k.tk,.slice k.oa k.on k.ok] 27):=⟨⟩;have hb0:=(Below.refl _ w).alloc nr n1;have A0:=Ag.new w n1;have T0:=qC (hk.below hb0);have HW:=qC hw;have HC:=qC hcap;unfold Av.val;obtain⟨x0,x1⟩:=A0.two;clear hk hw hcap;go_enter func12,ntmps12
 go_wp2_with fail
 refine(Qz _ _ _ k.T _ T0.out.1 T0.out.2.2.1).mono ?_;rintro e w1 ⟨rfl,hb1⟩;have A1:=A0.below hb1;have T1:=qC (T0.out.below hb1);have B1:=Af hb0 hb1;clear x0 x1 A0 T0 hb0 hb1;obtain⟨x0,x1⟩:=A1.two;cases t1:BH k.tn k.T with
 |false=>
  go_wp2;go_ret;exact⟨Ah (Hc t1).symm,B1⟩
 |true=>
 go_wp2_with fail
 refine(QF _ _ _ k.O _ T1.out.2.1 T1.out.2.2.2).mono ?_;rintro e w2 ⟨rfl,hb2⟩;have A2:=A1.below hb2;have T2:=qC (T1.out.below hb2);have B2:=Af B1 hb2;clear x0 x1 A1 T1 B1 hb2;obtain⟨x0,x1⟩:=A2.two;cases t2:Cr k.on k.O with
 |false=>
  go_wp2;go_ret;exact⟨Ah (by simp[Bh,t2]),B2⟩
 |true=>
 have C3:=qC (Qd k w2 T2 HC t1 t2 (fun i hi=>(HW i hi).1));unfold Av.val at C3;go_wp2_with fail
 refine C3.out.mono ?_;rintro e w3 ⟨rfl,hb3⟩;have A3:=A2.below hb3;have T3:=qC (T2.out.below hb3);have B3:=Af B2 hb3;clear x0 x1 A2 T2 B2 hb3 C3;obtain⟨x0,x1⟩:=A3.two;cases t3:G5 k.tn k.T k.on k.O with
 |false=>
  go_wp2;go_ret;exact⟨Ah (by simp[Bh,t3]),B3⟩
 |true=>
 have C4:=qC (Ue k.oa k.on k.ok k.O w3 HC T3.out.2.2.2 t2 HW);have OK:Hid (Bh k=(IJ k.on k.O&&FC (fun i=>(k.O i).id) (fun i=>(k.O i).up) k.on)):=qC (by simp[Bh,t1,t2,t3]);clear t1 t2 t3;go_wp2_with fail
 refine C4.out.mono ?_;rintro e w4 ⟨rfl,hb4⟩;have B4:=Af B3 hb4;rw[<-OK.out];clear x0 x1 A3 T3 B3 hb4 C4;go_wp2;go_ret;exact⟨rfl,B4⟩
open _root_.List renaming mem_range→jG,range→qx
variable {ids ids' ups ups':Nat->Int}{n i:Nat}
theorem JG(h:∀i,i<n->ids' i=ids i)(x:Int):Bq ids' n x=Bq ids n x:=by
 apply Option.ext;intro j;unfold Bq;rw[List.find?_range_eq_some,List.find?_range_eq_some];constructor
 ·rintro⟨h1,h2,h3⟩;have hj:=jG.1 h2;rw[h j hj]at h1;exact⟨h1,h2,fun i hi=>by have:=h3 i hi;rw[h i qQ]at this;exact this⟩
 ·rintro⟨h1,h2,h3⟩;have hj:=jG.1 h2;rw[<-h j hj]at h1;exact⟨h1,h2,fun i hi=>by have:=h3 i hi;rw[<-h i qQ]at this;exact this⟩
theorem XR(h:∀i,i<n->ids' i=ids i)(hu:∀i,i<n->ups' i=ups i)(hi:i<n):J6 ids' ups' n i=J6 ids ups n i:=by
 unfold J6;rw[hu i hi,JG h]
theorem Ve(h:∀i,i<n->ids' i=ids i)(hu:∀i,i<n->ups' i=ups i)(m:Nat)(hi:i<n):Bt ids' ups' n m i=Bt ids ups n m i:=by
 induction m generalizing i with
 |zero=>rfl
 |succ m ih=>
  simp only[Bt];rw[XR h hu hi];cases e:J6 ids ups n i with
  |none=>rfl
  |some j=>exact ih (Oj e)
theorem IG{p q:Nat->Bool}(h:∀i,i<n->p i=q i):(qx n).all p=(qx n).all q:=by
 rw[Bool.eq_iff_iff];constructor
 ·intro e;exact Fc fun i hi=>by rw[<-h i hi];exact FI e i hi
 ·intro e;exact Fc fun i hi=>by rw[h i hi];exact FI e i hi
theorem Sv(h:∀i,i<n->ids' i=ids i)(hu:∀i,i<n->ups' i=ups i):FC ids' ups' n=FC ids ups n:=by
 unfold FC;refine IG fun i hi=>?_;congr 1;funext m;rw[Ve h hu m hi]
theorem VO{t u:Ae}(h:t.same u):C8 u=C8 t:=by
 obtain⟨h1,h2,⟨a1,a2,a3⟩,h3,⟨b1,b2,b3⟩,⟨c1,c2⟩,h4⟩:=h;simp only[C8,h1,h2,h3,h4,a1,a2,a3,b1,b2,b3,c1,c2]
theorem Wo{t u:Ab}(h:t.same u):CF u=CF t:=by
 obtain⟨h1,h2,h3,h4,⟨a1,a2,a3⟩,h5,⟨d1,d2⟩,⟨c1,c2⟩,h6,⟨b1,b2,b3⟩⟩:=h;simp only[CF,Hp,h2,h4,h5,h6,a1,a2,a3,b1,b2,b3,c1,c2,d1,d2]
theorem Ww{f g f' g':Nat->Int}(hf:∀i,i<n->f' i=f i)(hg:∀i,i<n->g' i=g i)(x:Int):look f' g' n x=look f g n x:=by
 induction n with
 |zero=>rfl
 |succ n ih=>
  rw[look,look,hf n qQ,hg n qQ,ih (fun i hi=>hf i qQ) (fun i hi=>hg i qQ)]
theorem Cc{k l:Av}(h:k.same l):Bh l=Bh k:=by
 obtain⟨h1,h2,h3,h4⟩:=h;have i1:∀i,i<k.on->(l.O i).id=(k.O i).id:=fun i hi=>(h4 i hi).1;have u1:∀i,i<k.on->(l.O i).up=(k.O i).up:=fun i hi=>(h4 i hi).2.2.1;have k1:∀i,i<k.on->(l.O i).kind=(k.O i).kind:=fun i hi=>(h4 i hi).2.1;have t1:∀i,i<k.tn->(l.T i).id=(k.T i).id:=fun i hi=>(h2 i hi).1;have m1:∀i,i<k.tn->(l.T i).made=(k.T i).made:=fun i hi=>(h2 i hi).2.2.2.2.2.2;by_cases h0:1<=k.on
 ·have e1:BH l.tn l.T=BH k.tn k.T:=by
   unfold BH;rw[h1];congr 1;refine IG fun i hi=>?_;unfold Ej;rw[VO (h2 i hi),t1 i hi];by_cases e:i=0
   ·subst e;rfl
   ·rw[t1 (i-1) qQ]
  have e2:Cr l.on l.O=Cr k.on k.O:=by
   unfold Cr Gm;rw[h3,i1 0 h0,u1 0 h0,k1 0 h0];congr 2;refine IG fun i hi=>?_;unfold Gd;rw[Wo (h4 i hi),i1 0 h0,i1 i hi];by_cases e:i=0
   ·subst e;rfl
   ·rw[i1 (i-1) qQ]
  have e3:G5 l.tn l.T l.on l.O=G5 k.tn k.T k.on k.O:=by
   unfold G5;rw[h3];refine IG fun i hi=>?_;unfold FZ madeOf;rw[i1 (i+1) qQ,h1,Ww t1 m1]
  have e4:IJ l.on l.O=IJ k.on k.O:=by
   unfold IJ;rw[h3];refine IG fun i hi=>?_;unfold Ga;rw[u1 (i+1) qQ,JG i1];split
   ·rename_i u hu;rw[k1 u (AH hu).1]
   ·rfl
  unfold Bh;rw[e1,e2,e3,e4,h3,Sv i1 u1]
 ·rw[IP (k:=k) qQ,IP (k:=l) (by rw[h3];omega)]
open _root_.List renaming range_succ→kZ
variable {x:Int}{q:Nat}{k:Av}
def Kt(O:Nat->Ab)(x:Int)(q:Nat):List Int:=((List.range q).filter (fun j=>(O j).up==x)).map (fun i=>(O i).id)
theorem bW{O:Nat->Ab}(h:(O q).up=x):Kt O x (q+1)=Kt O x q++[(O q).id]:=by
 simp[Kt,kZ,h]
theorem fg{O:Nat->Ab}(h:(O q).up≠x):Kt O x (q+1)=Kt O x q:=by
 simp[Kt,kZ,h]
theorem Xk(O:Nat->Ab)(x:Int)(q:Nat):(Kt O x q).length<=q:=by
 unfold Kt;rw[List.length_map];exact Nat.le_trans (List.length_filter_le _ _) sI
theorem ah{O:Nat->Ab}{n u:Nat}:Kt O (O u).id n=BZ (fun i=>(O i).id) (fun i=>(O i).up) n u:=rfl
theorem Ox(k:Av)(x:Int)(w:World)(hk:k.at w)(hn:k.on<=271):
 Calls prog 100 #[k.val,.int .i64 x] w fun e w'=>∃v,e= .returned v/\AI w' w v (Kt k.O x k.on)/\Below w w w':=by
 have n1:No (.cells #[.slice k.ta k.tn k.tk,.slice k.oa k.on k.ok] 27):=⟨⟩;have hb0:=(Below.refl _ w).alloc nr n1;have A0:=Ag.new w n1;have bm:=hb0.alloc hb0.size (.cells #[] 2);have A1:=A0.alloc (.cells #[] 2);have O1:=AI.made (w.alloc n1) (w.heap.size+1) sI;have HT:=qC hk;unfold Av.val;clear hk;go_enter func100,ntmps100
 go_wp2;generalize hW:((w.alloc n1).alloc (.cells #[] 2))=W at *;have O2:AI W (w.heap.size+1) (.slice (some ⟨w.heap.size+1,0,none⟩) 0 0) []:=by simpa using O1
 clear hW hb0 A0 O1;go_loopw [5,6] (fun v i wr=>∃q:Nat,q<=k.on/\i= .int .i64 q/\Hid (AI wr (w.heap.size+1) v (Kt k.O x q))/\Ag wr w n1/\Below w w wr) (fun _ i _=>k.on-(intOf i).toNat)
 case atStart=>exact⟨0,Nat.zero_le _,rfl,qC O2,A1,bm⟩
 case round=>
  clear O2 A1 bm;obtain⟨q,hq,rfl,HO,A,hB⟩:=hrel;obtain⟨x0,x1⟩:=A.two;by_cases hlt:q<k.on
  ·obtain⟨b,off,ea,hlt0,hcc⟩:=HT.out.2.2.2.below hB qQ;have q0:=(hcc q hlt).1.c0;have q2:=(hcc q hlt).1.c2;rw[ea]at x1;have i1:(q:Int)<(k.on:Int):=qQ;clear hcc ea;by_cases e:(k.O q).up=x
   ·have e':((k.O q).up==x)=true:=(by simpa using e);have EQ:=qC (bW e);have hl:=Xk k.O x q;have n2:No (.cells #[.int .i64 (k.O q).id] 2):=⟨⟩;have B1:Below w w (wr.alloc n2):=hB.alloc hB.size _;have AA:=A.alloc n2;have OA:=qC (AI.alloc HO n2);have L1:=qC (Ec.one (w:=wr) (k.O q).id);have s1:w.heap.size+1<=(wr.alloc n2).heap.size:=(by have:=A.lt;simp;omega);have FIN:Hid (∀w3:World,(wr.alloc n2).grownBy w3 u5.ownBlock->Ag w3 w (.cells #[.slice k.ta k.tn k.tk,.slice k.oa k.on k.ok] 27)/\Below w w w3):=qC (fun w3 g3=>⟨AA.grown g3 (fun e=>by have:=(qq.lt OA _ e.symm).1;omega),B1.trans (below_grown g3 B1.size (fun j hj=>by have:=(qq.lt OA j hj).1;omega))⟩);clear e HO;go_wp2_with(refine Ep _ rfl _ _ rfl (w.heap.size+1) u5 (Kt k.O x q) rfl OA _ 1 1 [(k.O q).id] rfl rfl L1 qQ s1 ?_;intro a3 c3 w3 o3 g3 v3)
    rw[<-EQ.out]at o3;obtain⟨f1,f2⟩:=FIN.out w3 g3;exact⟨⟨q+1,by omega,by go_num,qC (by first|exact o3|simpa[EQ.out]using o3),f1,f2⟩,by simp[intOf];omega⟩
   ·have e':((k.O q).up==x)=false:=(by simpa using e);have EQ:=qC (fg e);clear e;go_wp2;exact⟨⟨q+1,by omega,by go_num,qC (by rw[EQ.out];exact HO.out),A,hB⟩,by simp[intOf];omega⟩
  ·have i1:¬(q:Int)<(k.on:Int):=qQ;have e:q=k.on:=qQ;have HO2:Hid (AI wr (w.heap.size+1) u5 (Kt k.O x k.on)):=qC (by rw[<-e];exact HO.out);clear HO e;go_wp2;go_ret;exact⟨u5,rfl,HO2.out.low qQ,hB⟩
theorem Cj(h:Bh k=true):BH k.tn k.T=true/\Cr k.on k.O=true/\G5 k.tn k.T k.on k.O=true/\IJ k.on k.O=true/\FC (fun i=>(k.O i).id) (fun i=>(k.O i).up) k.on=true:=by
 simp only[Bh,Bool.and_eq_true]at h;exact⟨h.1.1.1.1,h.1.1.1.2,h.1.1.2,h.1.2,h.2⟩
theorem Rs(h:Bh k=true){c:Nat}(hc:c<k.on)(h0:c≠0):∃u,Bq (fun i=>(k.O i).id) k.on (k.O c).up=some u:=by
 have hu:=FI (Cj h).2.2.2.1 (c-1) qQ;have e:c-1+1=c:=by omega
 simp only[e]at hu;unfold Ga at hu;split at hu
 ·rename_i u hu';exact⟨u,hu'⟩
 ·cases hu

open _root_.List renaming getElem?_eq_some_iff→xQ,mem_cons→kK,mem_append→jq,getElem_of_mem→xJ,getElem?_eq_getElem→jM,mem_of_getElem?→zK,mem_cons_self→kV,pairwise_cons→xK,mem_append_left→zj,getElem?_append_left→kP,mem_cons_of_mem→xV,mem_map→jy
open _root_.Option renaming bind_some→kQ
theorem Lu(L:List Int)(x:Int):(Eh L x).length<=L.length+1:=by
 unfold Eh;split
 ·omega
 ·simp;omega
theorem aP(L:List Int)(x:Int):0<(Eh L x).length:=by
 unfold Eh;split
 ·rename_i h;have:=(xQ.1 h).1;omega
 ·simp;omega
theorem OF{L:List Int}{x y:Int}(h:y∈Eh L x):y∈L∨y=x:=by
 unfold Eh at h;split at h
 ·exact .inl h
 ·rw[jq,jq,List.mem_singleton]at h;rcases h with(h|h)|h
  ·exact .inl (List.mem_of_mem_take h)
  ·exact .inr h
  ·exact .inl (List.mem_of_mem_drop h)
theorem J8{L:List Int}{x:Int}(h:L.Pairwise (· <·)):(Eh L x).Pairwise (· <·):=by
 unfold Eh;split
 ·exact h
 ·rename_i hx;have hlo:∀y∈L.take (putAt L x),y<x:=by
   intro y hy;obtain⟨j,hj,rfl⟩:=xJ hy;have hj':j<putAt L x:=(by simp at hj;omega);have:=List.not_of_lt_findIdx hj';simp at this;simpa using this
  have hhi:∀y∈L.drop (putAt L x),x<y:=by
   intro y hy;obtain⟨j,hj,rfl⟩:=xJ hy;rw[List.getElem_drop];have hlen:putAt L x<L.length:=(by simp at hj;omega);have h0:¬L[putAt L x]<x:=by
    have:=List.findIdx_getElem (xs:=L) (p:=fun y=> !decide (y<x)) (w:=hlen);unfold putAt;simpa using this
   have h1:L[putAt L x]≠x:=fun e=>hx (by rw[jM hlen,e]);by_cases ej:j=0
   ·subst ej;simp;omega
   ·have:=List.pairwise_iff_getElem.1 h (putAt L x) (putAt L x+j) hlen (by simp at hj;omega) qQ;omega
  rw[List.append_assoc,List.pairwise_append];refine⟨h.sublist (List.take_sublist _ _),?_,?_⟩
  ·rw[List.singleton_append,xK];exact⟨hhi,h.sublist (List.drop_sublist _ _)⟩
  ·intro y hy z hz;have h1:=hlo y hy;rw[List.singleton_append,kK]at hz;rcases hz with rfl|hz
   ·exact h1
   ·have:=hhi z hz;omega
theorem Xi{L:List Int}{x y:Int}:y∈Eh L x↔y∈L∨y=x:=by
 refine⟨OF,fun h=>?_⟩;unfold Eh;split
 ·rename_i e;rcases h with h|rfl
  ·exact h
  ·exact zK e
 ·rcases h with h|rfl
  ·rw[<-List.take_append_drop (putAt L x) L]at h;rcases jq.1 h with h|h
   ·exact zj _ (zj _ h)
   ·exact List.mem_append_right _ h
  ·simp
theorem Px:∀{l m:List Int},l.Pairwise (· <·)->m.Pairwise (· <·)->(∀x,x∈l↔x∈m)->l=m
 |[],[],_,_,_=>rfl
 |[],b::m,_,_,h=>by have:=(h b).2 kV;cases this
 |a::l,[],_,_,h=>by have:=(h a).1 kV;cases this
 |a::l,b::m,h1,h2,h=>by
  obtain⟨a1,a2⟩:=xK.1 h1;obtain⟨b1,b2⟩:=xK.1 h2;have e:a=b:=by
   rcases kK.1 ((h a).1 kV)with e|e
   ·exact e
   ·rcases kK.1 ((h b).2 kV)with e'|e'
    ·exact e'.symm
    ·have:=a1 b e';have:=b1 a e;omega
  subst e;rw[Px a2 b2 fun x=>?_];constructor
  ·intro hx;rcases kK.1 ((h x).1 (xV _ hx))with e|e
   ·subst e;have:=a1 x hx;omega
   ·exact e
  ·intro hx;rcases kK.1 ((h x).2 (xV _ hx))with e|e
   ·subst e;have:=b1 x hx;omega
   ·exact e
theorem Ms{l:List Int}{x:Int}:x∈CM l↔x∈l:=(List.mergeSort_perm l _).mem_iff
theorem WO{l:List Int}(h:l.Nodup):(CM l).Pairwise (· <·):=by
 have h1:(CM l).Pairwise (fun a b=>a<=b):=by
  have:=List.pairwise_mergeSort (le:=fun(x y:Int)=>decide (x<=y)) (fun a b c h1 h2=>by simp at *;omega) (fun a b=>by simp;omega) l;exact this.imp (fun h=>by simpa using h)
 have h2:(CM l).Nodup:=(List.mergeSort_perm l _).nodup_iff.2 h;exact(h1.and h2).imp (fun{a b} ⟨h3,h4⟩=>by omega)
def Eu(L:List Int):List Int:=L.foldl Eh []
theorem Uz(L:List Int):(Eu L).Pairwise (· <·):=by
 unfold Eu;have:∀(M:List Int),M.Pairwise (· <·)->(L.foldl Eh M).Pairwise (· <·):=by
  induction L with
  |nil=>intro M h;exact h
  |cons a L ih=>intro M h;exact ih _ (J8 h)
 exact this [] List.Pairwise.nil
theorem VD(L:List Int)(x:Int):x∈Eu L↔x∈L:=by
 unfold Eu;have:∀(M:List Int),x∈L.foldl Eh M↔x∈M∨x∈L:=by
  induction L with
  |nil=>intro M;simp
  |cons a L ih=>intro M;rw[List.foldl_cons,ih,Xi,kK];exact or_assoc
 rw[this []];simp
theorem WP(L:List Int):(Eu L).length<=L.length:=by
 unfold Eu;have:∀(M:List Int),(L.foldl Eh M).length<=M.length+L.length:=by
  induction L with
  |nil=>intro M;simp
  |cons a L ih=>intro M;rw[List.foldl_cons];have:=ih (Eh M a);have:=Lu M a;simp only[List.length_cons];omega
 simpa using this []
section
variable {ids ups:Nat->Int}{n u:Nat}
structure Xc(ids ups:Nat->Int)(n u t:Nat)(Q:List Nat):Prop where
 nodup:Q.Nodup
 head:Q[0]? =some u
 mem:∀j∈Q,j<n/\∃m,Bt ids ups n m j=some u
 closed:∀s a,s<t->Q[s]? =some a->∀c∈DU ids ups n a,c∈Q
 origin:∀s c,0<s->Q[s]? =some c->∃r a,r<t/\Q[r]? =some a/\J6 ids ups n c=some a
theorem Xc.start(hu:u<n):Xc ids ups n u 0 [u]:=by
 refine⟨by simp,rfl,fun j hj=>?_,fun s a hs=>by omega,fun s c hs e=>?_⟩
 ·simp at hj;subst hj;exact⟨hu,0,rfl⟩
 ·cases s with
  |zero=>omega
  |succ s=>simp at e
theorem Xc.step(hr:DK ids n)(h0:∀j,j<n->ids j≠ups 0)(hc:Ii ids ups n u){t a:Nat}{Q:List Nat}(h:Xc ids ups n u t Q)(ht:Q[t]? =some a):Xc ids ups n u (t+1) (Q++DU ids ups n a):=by
 have hta:t<Q.length:=(xQ.1 ht).1;obtain⟨han,ma,hma⟩:=h.mem a (zK ht);have kid:∀c,c∈DU ids ups n a->c<n/\J6 ids ups n c=some a:=fun c hc=>(Gi hr h0 han).1 hc;have old:∀{s x},Q[s]? =some x->(Q++DU ids ups n a)[s]? =some x:=fun{s x} e=>by
  rw[kP (xQ.1 e).1];exact e
 refine⟨?_,old h.head,fun j hj=>?_,fun s b hs e c hcb=>?_,fun s c hs e=>?_⟩
 ·rw[List.nodup_append];refine⟨h.nodup,List.Nodup.sublist List.filter_sublist List.nodup_range,fun x hx y hy exy=>?_⟩;subst exy;obtain⟨_,px⟩:=kid x hy;obtain⟨s,hs,es⟩:=xJ hx;by_cases s0:s=0
  ·subst s0;have:x=u:=(by have:=h.head;rw[jM hs,es]at this;simpa using this);subst this;exact hc ma (by simp only[Bt,px,kQ];exact hma)
  ·obtain⟨r,b,hrt,hb,pb⟩:=h.origin s x qQ (by rw[jM hs,es]);rw[px]at pb;have eab:a=b:=(by simpa using pb);subst eab;have hrl:=(xQ.1 hb).1;have e1:=(xQ.1 hb).2;have e2:=(xQ.1 ht).2;have:=(List.getElem_inj (h₀:=hrl) (h₁:=hta) h.nodup).1 (e1.trans e2.symm);omega
 ·rcases jq.1 hj with hj|hj
  ·exact h.mem j hj
  ·obtain⟨h1,h2⟩:=kid j hj;exact⟨h1,ma+1,by simp only[Bt,h2,kQ];exact hma⟩
 ·by_cases est:s=t
  ·subst est;rw[old ht]at e;have:a=b:=(by simpa using e);subst this;exact List.mem_append_right _ hcb
  ·have hsl:s<Q.length:=qQ;rw[kP hsl]at e;exact zj _ (h.closed s b qQ e c hcb)
 ·by_cases hsl:s<Q.length
  ·rw[kP hsl]at e;obtain⟨r,b,h1,h2,h3⟩:=h.origin s c hs e;exact⟨r,b,by omega,old h2,h3⟩
  ·rw[List.getElem?_append_right qQ]at e;exact⟨t,a,by omega,old ht,(kid c (zK e)).2⟩
theorem Xc.len{t:Nat}{Q:List Nat}(h:Xc ids ups n u t Q):Q.length<=n:=Hh h.nodup (fun x hx=>(h.mem x hx).1)
theorem Xc.all(hr:DK ids n)(h0:∀j,j<n->ids j≠ups 0){Q:List Nat}(h:Xc ids ups n u Q.length Q)(j:Nat):j∈Q↔j<n/\∃m,Bt ids ups n m j=some u:=by
 refine⟨h.mem j,?_⟩;rintro⟨hj,m,e⟩;induction m generalizing j with
 |zero=>
  simp only[Bt,Option.some.injEq]at e;subst e;exact zK h.head
 |succ m ih=>
  simp only[Bt]at e;cases ep:J6 ids ups n j with
  |none=>simp[ep]at e
  |some p=>
   simp only[ep,kQ]at e;have hp:=ih p (Oj ep) e;obtain⟨s,hs,es⟩:=xJ hp;exact h.closed s p hs (by rw[jM hs,es]) j ((Gi hr h0 (Oj ep)).2 ⟨hj,ep⟩)
theorem bS(hr:DK ids n)(h0:∀j,j<n->ids j≠ups 0)(hu:u<n)(hc:Ii ids ups n u){Q:List Nat}(h:Xc ids ups n u Q.length Q):Eu (Q.map ids)=CM ((Gk ids ups n n u).map ids):=by
 have inj:∀{l:List Nat},l.Nodup->(∀x∈l,x<n)->(l.map ids).Nodup:=fun{l} hl hx=>by
  rw[List.Nodup,List.pairwise_map];refine List.Pairwise.imp_of_mem ?_ hl;intro a b ha hb hab e;exact hab (hr.inj (hx a ha) (hx b hb) e)
 refine Px (Uz _) (WO (inj (IR hr h0 hu hc) (fun x hx=>((Fe hr h0 hu).1 hx).1))) fun x=>?_;rw[VD,Ms,jy,jy];constructor
 ·rintro⟨j,hj,rfl⟩;obtain⟨h1,m,h2⟩:=h.mem j hj;exact⟨j,(Fe hr h0 hu).2 ⟨h1,m,Pn hc h1 h2,h2⟩,rfl⟩
 ·rintro⟨j,hj,rfl⟩;obtain⟨h1,m,_,h2⟩:=(Fe hr h0 hu).1 hj;exact⟨j,(h.all hr h0 j).2 ⟨h1,m,h2⟩,rfl⟩
end
open Go.BigFrame
open Go.Value renaming slice→qV,int→iT
open Go.IntKind renaming i64→qH
open Go.Obj renaming cells→qG
open _root_.List renaming getElem_mem→qk
open _root_.Nat renaming le_trans→qj
open Go.Region renaming wanted→jW
open Go renaming World→qM
open Go.RowKit renaming Below→qN
theorem Wm{ops:Array Oper}{o:Oper}{a:Act}{w:qM}{K:Act->qM->Prop}{Q:Exit->Act->qM->Prop}{E:Prop}(hgd:o.guard=none)(f:Nat)(x y:Operand)(ats:Array TypeId)
 (ho:o.op= .call {callee:= .value (.func f),args:=#[x,y],argTypes:=ats})(eg:∀args w,(callFunc f args).run prog w= .ok (.enter f args) w)(v0 v1:Value)(hv:a.eval x=v0)(hv1:a.eval y=v1)
 (R:Value->qM->Prop)(hc:Calls prog f #[v0,v1] w fun e w'=>∃v,e= .returned v/\R v w')(h:∀v w',R v w'->K (a.put o.dst v) w'):
 if jW o (yielded ops a.tmps)=true then Oper.wp prog o a w K Q else E:=by
 have hw:jW o (yielded ops a.tmps)=true:=by simp[jW,hgd]
 rw[if_pos hw];have e:(execOp a.eval o).run prog w= .ok (.enter f #[v0,v1]) w:=by
  unfold execOp;simp only[ho,resolve,invoke,Sem.run_bind,List.map_toArray,List.map_cons,List.map_nil,hv,hv1];simp[go_sem,eg,Act.eval]
 unfold Oper.wp;rw[e,Oper.upon_enter];exact hc.mono fun e w' ⟨v,he,hr⟩=>by subst he;exact h v w' hr
theorem Bz.setMade{w:qM}{B g ca:Nat}{vo:Value}{lt:List Ae}{lo:List Ab}(h:Bz w B (qV g lt.length ca) vo lt lo){t:Nat}{m:Int}(ht:t<lt.length){X:Ae}(hX:X=lt[t]):
 Bz (w.setCell ⟨g,t*7+6,none⟩ (iT qH m)) B (qV g lt.length ca) vo (lt.set t ⟨X.id,X.b1,X.c1,X.b2,X.c2,X.own,m⟩) lo/\(∃cur,Ag w g (qG cur 53))/\B<=g:=by
 have hn:=h.tn _ (qk ht);have hc:=h.tc _ (qk ht);rw[<-hX]at hn hc;obtain⟨k1,hcur,hg⟩:=h.setT (x:=⟨X.id,X.b1,X.c1,X.b2,X.c2,X.own,m⟩) (u:= iT qH m) ht (i:=6) qQ (by rw[<-hX];rfl) hn hc;have el:(lt.set t (⟨X.id,X.b1,X.c1,X.b2,X.c2,X.own,m⟩:Ae)).length=lt.length:=by simp
 rw[el]at k1;exact⟨k1,hcur,hg⟩
def Aw(X:Ae):Int:=1000*X.id+X.made+1
theorem VS(lt:List Ae)(lo:List Ab)(g ca:Nat)(oa:Option Addr)(co B:Nat)(w:qM)(st:Bz w B (qV g lt.length ca) (qV oa lo.length co) lt lo)(hB:B<=w.heap.size)(t:Nat)(ht:t<lt.length)(X:Ae)(hX:X=lt[t])(xs:X.small)(s:Aj)(hk:s.kind=1)(hi:1<=X.id/\X.id<=9)(hm:0<=X.made/\X.made<=30)(ho:X.own.n<=10):
 Calls prog 44 #[.agg #[qV g lt.length ca,qV oa lo.length co],iT qH t,.agg s] w fun e w'=>∃(x:Ae) (c:Int) (tx:ByteArray),e= .returned (.tuple #[.agg #[qV g lt.length ca,qV oa lo.length co],iT qH c,.string tx])/\Bz w' B (qV g lt.length ca) (qV oa lo.length co) (lt.set t x) lo/\qN B w w'/\((c=5/\(X.made=30∨X.own.n=10)/\x=X/\tx=⟨#[]⟩)∨(c=0/\¬(X.made=30∨X.own.n=10)/\tx=⟨(Dd (Aw X).toNat).toArray⟩/\∃(a:Option Addr) (cc:Nat),x=⟨X.id,X.b1,X.c1,X.b2,X.c2,⟨a,(Eh ((qx X.own.n).map X.own.h) (Aw X)).length,cc,AZ (Eh ((qx X.own.n).map X.own.h) (Aw X))⟩,X.made+1⟩)):=by
 obtain⟨th,kd,id_,to_,cat,dat,sb1,sc1,sb2,sc2⟩:=s;simp only at hk ⊢;subst hk;have XN:Hid (X.new B w/\(X.own.n<=X.own.k/\X.own.k<=maxLen)):=qC (by rw[hX];exact⟨st.tn _ (qk ht),st.tc _ (qk ht)⟩);have XA:Hid (X.at w):=qC XN.out.1.at;have on1:X.own.n<=1048576:=xs.2.2;obtain⟨CW,gl⟩:=st.jJ ht;rw[<-hX]at CW;have n10:No (qG #[qV g lt.length ca,qV oa lo.length co] 27):=⟨⟩;have n11:No (qG #[th,iT qH 1,id_,to_,cat,.string dat,sb1,sc1,sb2,sc2] 50):=⟨⟩;have n7:Nw ((w.alloc n10).alloc n11):=⟨⟩;have n9:No (qG #[qV none 0 0,qV none 0 0] 27):=⟨⟩;have b3:qN w w ((n7:qM).alloc n9):=((Bg w _).alloc sI _).alloc sO _;have CC:=CW.below gl b3;have q0:((n7:qM).alloc n9).cell? ⟨g,t*7,none⟩=some (iT qH X.id):=CC.c0;have q1:((n7:qM).alloc n9).cell? ⟨g,t*7+1,none⟩=some (iT qH X.b1):=CC.c1;have q2:((n7:qM).alloc n9).cell? ⟨g,t*7+2,none⟩=some (qV X.c1.a X.c1.n X.c1.k):=CC.c2;have q3:((n7:qM).alloc n9).cell? ⟨g,t*7+3,none⟩=some (iT qH X.b2):=CC.c3;have q4:((n7:qM).alloc n9).cell? ⟨g,t*7+4,none⟩=some (qV X.c2.a X.c2.n X.c2.k):=CC.c4;have q5:((n7:qM).alloc n9).cell? ⟨g,t*7+5,none⟩=some (qV X.own.a X.own.n X.own.k):=CC.c5;have q6:((n7:qM).alloc n9).cell? ⟨g,t*7+6,none⟩=some (iT qH X.made):=CC.c6;have n8:No (qG X 53):=⟨⟩;have b0:qN w w (((n7:qM).alloc n9).alloc n8):=(((Bg w _).alloc sI _).alloc sO _).alloc sO _;have A0:Ag (((n7:qM).alloc n9).alloc n8) w n10:=(((Ag.new w _).alloc _).alloc _).alloc _;have P0:Ag (((n7:qM).alloc n9).alloc n8) (w.heap.size+1) n11:=by have:=((Ag.new (w.alloc n10) n11).alloc n9).alloc n8;simpa using this
 have R0:Ag (((n7:qM).alloc n9).alloc n8) (w.heap.size+1+1) n9:=by have:=(Ag.new n7 n9).alloc n8;simpa using this
 have X0:Ag (((n7:qM).alloc n9).alloc n8) (w.heap.size+1+1+1) n8:=by have:=Ag.new ((n7:qM).alloc n9) n8;simpa using this
 have HS:=qC (st.below b0);have HB:=qC b0;have ST:=qC st;have HA:=qC A0;have HP:=qC P0;have HR:=qC R0;have HX:=qC X0;have EX:=qC hX;have i0:(0:Int)<=(t:Int):=by omega
 have i1:(t:Int)<(lt.length:Int):=by omega
 have w1_:IntKind.i64.wrap (1000*X.id)=1000*X.id:=by rw[IntKind.wrap_i64];omega
 have w2_:IntKind.i64.wrap (1000*X.id+X.made)=1000*X.id+X.made:=by rw[IntKind.wrap_i64];omega
 have w3_:IntKind.i64.wrap (1000*X.id+X.made+1)=1000*X.id+X.made+1:=by rw[IntKind.wrap_i64];omega
 have w4_:IntKind.i64.wrap (X.made+1)=X.made+1:=by rw[IntKind.wrap_i64];omega
 obtain⟨x0,x1⟩:=HA.out.two;obtain⟨s0,s1,s2,s3,s4,s5,s6,s7,s8,s9⟩:=HP.out.jE;obtain⟨y0,y1,y2,y3,y4,y5,y6⟩:=HX.out.seven;obtain⟨r0,r1⟩:=HR.out.two;have rf:=HR.out.jC;clear CC CW b3 b0 A0 P0 R0 X0 hX st;by_cases hf:X.made=30∨X.own.n=10
 ·have HF:=qC hf;have NB:Hid (qN w w (((n7:qM).alloc n10).alloc n8)):=qC ((((Bg w _).alloc sI _).alloc sO _).alloc sO _);have NOF:Hid (Bz (((n7:qM).alloc n10).alloc n8) B (qV g lt.length ca) (qV oa lo.length co) (lt.set t X) lo):=qC (by
   have e:=FE ht;rw[<-EX.out]at e;rw[e];exact ST.out.below NB)
  have NR:Hid (Ag (((n7:qM).alloc n10).alloc n8) (w.heap.size+1+1) n10):=qC (by have:=(Ag.new n7 n10).alloc n8;simpa using this);by_cases h3:X.made=30
  ·have h3':(X.made==30)=true:=(by simpa using h3);have h3'':decide (X.made=30)=true:=decide_eq_true h3;clear hf h3;go_enter func44,ntmps44
   go_wp2;exact bodyPost_ret (Al _ _ (w.heap.size+1+1) 6 _ _ _ _ Tryz.results44 NR rfl rfl rfl) rfl ⟨X,5,_,rfl,NOF,NB.out.mono hB,.inl ⟨rfl,HF,rfl,rfl⟩⟩
  ·have h4:X.own.n=10:=hf.resolve_left h3;have h3':(X.made==30)=false:=(by simpa using h3);have h3'':decide (X.made=30)=false:=decide_eq_false h3;have h4':(X.own.n:Int)=10:=qQ;have H4:=qC h4;clear hf h3 h4;go_enter func44,ntmps44
   go_wp2;exact bodyPost_ret (Al _ _ (w.heap.size+1+1) 6 _ _ _ _ Tryz.results44 NR rfl rfl rfl) rfl ⟨X,5,_,rfl,NOF,NB.out.mono hB,.inl ⟨rfl,HF,rfl,rfl⟩⟩
 ·have h3:¬X.made=30:=fun h=>hf (.inl h);have h4:¬X.own.n=10:=fun h=>hf (.inr h);have h3':(X.made==30)=false:=by simpa using h3
  have h3'':decide (X.made=30)=false:=decide_eq_false h3;have h4':¬(X.own.n:Int)=10:=by omega
  have HF:=qC hf;have KB:=qC HS.out;have CC:=(KB.out.jJ ht).1;have c0:=CC.c0;have c1:=CC.c1;have c2:=CC.c2;have c3:=CC.c3;have c4:=CC.c4;have c5:=CC.c5;have c6:=CC.c6;have GF:=qC (KB.out.setMade (m:=X.made+1) ht EX);have gf:=GF.out.2.1.choose_spec.jC;have ng1:¬g=w.heap.size:=by omega
  have ng2:¬g=w.heap.size+1:=by omega
  have ng3:¬g=w.heap.size+1+1:=by omega
  have ng4:¬g=w.heap.size+1+1+1:=by omega
  clear hf CC h3 h4;go_enter func44,ntmps44
  go_wp2_with fail
  have A7:=qC (HA.out.other (Q:=g) ng1 (i:=t*7+6) (iT qH (X.made+1)));have P7:=qC (HP.out.other (Q:=g) ng2 (i:=t*7+6) (iT qH (X.made+1)));have R7:=qC (HR.out.other (Q:=g) ng3 (i:=t*7+6) (iT qH (X.made+1)));have X7:=qC (HX.out.other (Q:=g) ng4 (i:=t*7+6) (iT qH (X.made+1)));have n12:No (qG X 53):=⟨⟩;have L7:Hid (qN B w ((((n7:qM).alloc n9).alloc n12).setCell ⟨g,t*7+6,none⟩ (iT qH (X.made+1)))):=qC ((HB.out.mono hB).setCell (by dsimp only;exact GF.out.2.2) _);have S7:Hid (w.heap.size<=((((n7:qM).alloc n9).alloc n12).setCell ⟨g,t*7+6,none⟩ (iT qH (X.made+1))).heap.size):=qC (by rw[nblk_setCell];exact HB.out.size);have XI:Hid (X.own.at ((((n7:qM).alloc n9).alloc n12).setCell ⟨g,t*7+6,none⟩ (iT qH (X.made+1)))):=qC (((XN.out.1.keeps (Dk.of_below HB).l).keeps (Aq (i:=t*7+6) GF.out.2.1.choose_spec qX (iT qH (X.made+1)))).at.2.2);have K7:=qC GF.out.1;have gB:=GF.out.2.2;clear gf GF KB HA HP HR HX HS c0 c1 c2 c3 c4 c5 c6 x0 x1 s0 s1 s2 s3 s4 s5 s6 s7 s8 s9 r0 r1 rf y0 y1 y2 y3 y4 y5 y6 q0 q1 q2 q3 q4 q5 q6 HB;generalize (((n7:qM).alloc n9).alloc n12).setCell ⟨g,t*7+6,none⟩ (iT qH (X.made+1))=W7 at *;obtain⟨LS,eLS⟩:∃l,l=lt.set t (⟨X.id,X.b1,X.c1,X.b2,X.c2,X.own,X.made+1⟩:Ae):=⟨_,rfl⟩;rw[<-eLS]at K7;have el1:LS.length=lt.length:=by rw[eLS];simp
  have ht':t<LS.length:=by rw[el1];exact ht
  have EL:Hid ((⟨X.id,X.b1,X.c1,X.b2,X.c2,X.own,X.made+1⟩:Ae)=LS[t]/\∀y,LS.set t y=lt.set t y):=qC ⟨by simp only[eLS,List.getElem_set_self],fun y=>by rw[eLS,List.set_set]⟩;rw[<-el1]at K7;clear eLS;have BX:Hid (∀W,qN W7 W7 W->Ag W w (qG #[qV g lt.length ca,qV oa lo.length co] 27)/\Ag W (w.heap.size+1) n11/\Ag W (w.heap.size+1+1) n9/\Ag W (w.heap.size+1+1+1) (qG X 53)/\Bz W B (qV g LS.length ca) (qV oa lo.length co) LS lo):=qC (fun W hW=>⟨A7.out.below hW,P7.out.below hW,R7.out.below hW,X7.out.below hW,K7.out.below hW⟩);have LB:Hid (∀W,qN W7 W7 W->qN B w W):=qC (fun W hW=>L7.out.trans (hW.mono (qj hB S7)));have V0:=qC (Below.refl W7 W7);have D0:=qC (Az V0);have IA:Hid (∀W,qN W7 W7 W->X.own.at W):=qC (fun W hW=>XI.out.below hW);have EG:Hid (∀args w,(callFunc 92 args).run prog w= .ok (.enter 92 args) w):=qC (enters_of func92 kR rfl);obtain⟨N,eN⟩:∃l,l=Eh ((qx X.own.n).map X.own.h) (Aw X):=⟨_,rfl⟩;have PL:Hid (N.length<=1048576):=qC (by
   have h1:=Lu ((qx X.own.n).map X.own.h) (Aw X);have h2:((qx X.own.n).map X.own.h).length=X.own.n:=sI;rw[eN];omega)
  have CP:Hid (Calls prog 92 #[X.own,iT qH (1000*X.id+X.made+1)] W7.drew fun e w'=>∃v,e= .returned v/\(∃va vc,v= qV va N.length vc/\AI w' W7.drew.heap.size (qV va N.length vc) N/\qN W7.drew.heap.size W7.drew w')):=qC ((QK X.own (1000*X.id+X.made+1) W7.drew (IA _ D0) on1 XN.out.2).mono fun _ _ ⟨va,vc,e1,h1,h2⟩=>⟨_,e1,va,vc,by rw[eN];rfl,by rw[eN];exact h1,h2⟩);have EN:=qC eN;clear eN;clear A7 P7 R7 X7 XI L7;obtain⟨x0,x1⟩:=(BX _ D0).1.two;obtain⟨s0,s1,s2,s3,s4,s5,s6,s7,s8,s9⟩:=(BX _ D0).2.1.jE;obtain⟨y0,y1,y2,y3,y4,y5,y6⟩:=(BX _ D0).2.2.2.1.seven;go_region_law(first
   |(refine Wm qK 92 _ _ _ qK EG _ _ qK qK _ CP ?_;rintro v w8 ⟨va,vc,rfl,o8,b8⟩;have V8:=qC (Af D0 b8);have O8:=qC o8;obtain⟨m0,m1⟩:=(BX _ V8).1.two;obtain⟨n0,n1,n2,n3,n4,n5,n6⟩:=(BX _ V8).2.2.2.1.seven;have KB:=qC (BX.out _ V8).2.2.2.2;have CC:=(KB.out.jJ ht').1;rw[<-EL.out.1]at CC;have ND:Hid (AJ.new B w8 ⟨va,N.length,vc,AZ N⟩):=qC ((O8.out.newL PL).low (qj hB (qj S7 D0.out.size)));have CQ:=qC (Dj O8);have c5:=CC.c5;have GF:=qC (KB.out.setOwn (d:=⟨va,N.length,vc,AZ N⟩) ht' EL.out.1 ND CQ);have gf:=GF.out.2.1.choose_spec.jC;clear o8 b8 CC))
  all_goals(
   have ng1':g≠w.heap.size:=ng1;have A8:=qC ((BX _ V8).1.other (Q:=g) ng1 (i:=t*7+5) (qV va N.length vc));have R8:=qC ((BX _ V8).2.2.1.other (Q:=g) ng3 (i:=t*7+5) (qV va N.length vc));have L8:Hid (qN B w (w8.setCell ⟨g,t*7+5,none⟩ (qV va N.length vc))):=qC ((LB _ V8).setCell (by dsimp only;exact gB) _);have S8:Hid (w.heap.size<=(w8.setCell ⟨g,t*7+5,none⟩ (qV va N.length vc)).heap.size):=qC (by rw[nblk_setCell];exact qj S7 V8.out.size);have K8:=qC GF.out.1;clear GF gf c5 KB ND CQ m0 m1 n0 n1 n2 n3 n4 n5 n6 x0 x1 s0 s1 s2 s3 s4 s5 s6 s7 s8 s9 y0 y1 y2 y3 y4 y5 y6;generalize w8.setCell ⟨g,t*7+5,none⟩ (qV va N.length vc)=W8 at *;have D8:=qC (Az (Below.refl W8 W8));have BY:Hid (∀W,qN W8 W8 W->Ag W w (qG #[qV g lt.length ca,qV oa lo.length co] 27)/\Ag W (w.heap.size+1+1) n9):=qC (fun W hW=>⟨A8.out.below hW,R8.out.below hW⟩);obtain⟨x0,x1⟩:=(BY _ D8).1.two;obtain⟨r0,r1⟩:=(BY _ D8).2.two;have rf:=(BY _ D8).2.jC;have EG9:Hid (∀args w,(callFunc 17 args).run prog w= .ok (.enter 17 args) w):=qC (enters_of func17 kR rfl);have CP9:Hid (Calls prog 17 #[iT qH (1000*X.id+X.made+1)] W8.drew fun e w'=>∃v,e= .returned v/\(v= .string ⟨(Dd (Aw X).toNat).toArray⟩/\qN W8.drew.heap.size W8.drew w')):=qC (by
    have e:(((Aw X).toNat:Nat):Int)=1000*X.id+X.made+1:=(by unfold Aw;omega);rw[<-e];exact(Kf _ _ (by unfold Aw;omega)).mono fun _ _ ⟨e1,h1⟩=>⟨_,e1,rfl,h1⟩)
   go_wp2_with fail
   go_region_law(first
    |(refine EJ qK 17 _ _ qK EG9 _ qK _ CP9 ?_;rintro v w9 ⟨rfl,b9⟩;have V9:=qC (Af D8 b9);obtain⟨m0,m1⟩:=(BY _ V9).1.two;obtain⟨z0,z1⟩:=(BY _ V9).2.two;have zf:=(BY _ V9).2.jC;clear b9))
   all_goals(
    go_wp2;refine bodyPost_ret (Al _ _ (w.heap.size+1+1) 6 _ _ _ _ Tryz.results44 (((BY _ V9).2.jB (i:=0) _).jB (i:=1) _) rfl rfl rfl) rfl ⟨_,0,_,rfl,?_,?_,.inr ⟨rfl,HF,rfl,va,vc,by rw[<-EN.out]⟩⟩
    ·have k9:=((K8.out.below V9).set (BY _ V9).2 (.inl rfl) (i:=0) (qV g lt.length ca)).set ((BY _ V9).2.jB (i:=0) _) (.inl rfl) (i:=1) (qV oa lo.length co);rw[EL.out.2,el1]at k9;exact k9
    ·exact(((L8.out.trans (V9.out.mono (qj hB S8))).setCell qJ _).setCell qJ _)))
variable {wr:World}{B P g ca q co t:Nat}{s:Aj}{lt:List Ae}{lo:List Ab}{m:Value}
theorem Fg.setP(h:Fg wr B P s g ca q co lt lo t m):P≠g/\P<wr.heap.size:=by
 refine⟨fun e=>?_,h.wk.lt⟩;have ht:=h.st.t;rcases ht.2 with⟨hv,_⟩|⟨g',cap,cur,hv,_,hgg,_⟩
 ·cases hv
 ·cases hv;have hw:=h.wk;unfold Ag at hw;rw[e,hgg]at hw;simp at hw
theorem Fg.setMade(h:Fg wr B P s g ca q co lt lo t m){n:Int}(ht:t<lt.length){X:Ae}(hX:X=lt[t]):
 Fg (wr.setCell ⟨g,t*7+6,none⟩ (iT qH n)) B P s g ca q co (lt.set t ⟨X.id,X.b1,X.c1,X.b2,X.c2,X.own,n⟩) lo t m/\B<=g/\∃cur,Ag wr g (.cells cur 53):=by
 obtain⟨k1,⟨cur,hc⟩,hg⟩:=h.st.setMade (m:=n) ht hX;have el:(lt.set t (⟨X.id,X.b1,X.c1,X.b2,X.c2,X.own,n⟩:Ae)).length=lt.length:=by simp
 have hn:X.cb.Nodup:=Dr (L:=lt.map Ae.cb) (t:=t) (by simp[ht,hX]) h.ap.c;have hd:X.own.bs.Nodup:=Dr (L:=lt.map fun x=>x.own.bs) (t:=t) (by simp[ht,hX]) h.ap.i;refine⟨⟨by rw[el];exact k1,h.ap.setT h.st ht (x:=⟨X.id,X.b1,X.c1,X.b2,X.c2,X.own,n⟩) hn (fun b hb=> .inl (by rw[<-hX];exact hb)) hd (fun b hb=> .inl (by rw[<-hX];exact hb)),by rw[el];exact h.wk.other (Ne.symm h.setP.1) _,h.lp⟩,hg,cur,hc⟩
theorem Wa(w:World)(B P:Nat)(s:Aj)(g ca q co:Nat)(lt:List Ae)(lo:List Ab)(t:Nat)(m:Value)(h:Fg w B P s g ca q co lt lo t m)(ht:t<lt.length)(X:Ae)(hX:X=lt[t])(hi:1<=X.id/\X.id<=1000000)(hm:0<=X.made/\X.made<=1000000):
 Calls prog 166 #[.pointer P] w fun e w'=>e= .returned (iT qH (Aw X))/\Fg w' B P s g ca q co (lt.set t ⟨X.id,X.b1,X.c1,X.b2,X.c2,X.own,X.made+1⟩) lo t m/\Below B w w':=by
 obtain⟨CW,gl⟩:=h.st.jJ ht;rw[<-hX]at CW;have q0:w.cell? ⟨g,t*7,none⟩=some (iT qH X.id):=CW.c0;have q6:w.cell? ⟨g,t*7+6,none⟩=some (iT qH X.made):=CW.c6;obtain⟨_,_,_,c12,_⟩:=h.wk.jZ;obtain⟨S1,hg,cur,hcu⟩:=h.setMade (n:=X.made+1) ht hX;have ne:=h.setP;have gf:=hcu.jC;obtain⟨_,_,_,d12,_⟩:=S1.wk.jZ;have el:(lt.set t (⟨X.id,X.b1,X.c1,X.b2,X.c2,X.own,X.made+1⟩:Ae)).length=lt.length:=by simp
 obtain⟨CV,_⟩:=S1.st.jJ (t:=t) (by rw[el];exact ht);have eg:(lt.set t (⟨X.id,X.b1,X.c1,X.b2,X.c2,X.own,X.made+1⟩:Ae))[t]'(by rw[el];exact ht)=⟨X.id,X.b1,X.c1,X.b2,X.c2,X.own,X.made+1⟩:=by simp
 rw[eg]at CV;have r0:(w.setCell ⟨g,t*7+6,none⟩ (iT qH (X.made+1))).cell? ⟨g,t*7,none⟩=some (iT qH X.id):=CV.c0;have r6:(w.setCell ⟨g,t*7+6,none⟩ (iT qH (X.made+1))).cell? ⟨g,t*7+6,none⟩=some (iT qH (X.made+1)):=CV.c6;have w1_:IntKind.i64.wrap (1000*X.id)=1000*X.id:=by rw[IntKind.wrap_i64];omega
 have w3_:IntKind.i64.wrap (1000*X.id+(X.made+1))=1000*X.id+(X.made+1):=by rw[IntKind.wrap_i64];omega
 have w4_:IntKind.i64.wrap (X.made+1)=X.made+1:=by rw[IntKind.wrap_i64];omega
 have NC:Hid (Ending.returned (iT qH (1000*X.id+(X.made+1)))= .returned (iT qH (Aw X))):=qC (Fw (by unfold Aw;omega));have S:=qC S1;have BL:=qC (show Below B w (w.setCell ⟨g,t*7+6,none⟩ (iT qH (X.made+1))) from(Below.refl B w).setCell hg _);have n1:¬P=g:=ne.1;have n2:¬g=P:=Ne.symm ne.1;clear h CW CV S1 el eg hX ne;go_enter func166,ntmps166
 go_wp2_with fail
 have e0:(w.setCell ⟨g,t*7+6,none⟩ (iT qH (X.made+1))).drew.cell? ⟨g,t*7,none⟩=some (iT qH X.id):=r0;have e6:(w.setCell ⟨g,t*7+6,none⟩ (iT qH (X.made+1))).drew.cell? ⟨g,t*7+6,none⟩=some (iT qH (X.made+1)):=r6;have e12:(w.setCell ⟨g,t*7+6,none⟩ (iT qH (X.made+1))).drew.cell? ⟨P,12,none⟩=some (.pointer (some ⟨g,t*7,none⟩)):=d12;clear r0 r6 d12;have SD:=qC (S.out.below (Below.refl _ _).drew);have BD:=qC (show Below B w (w.setCell ⟨g,t*7+6,none⟩ (iT qH (X.made+1))).drew from BL.out.drew);go_region_law fail
 all_goals(
  go_wp2;go_ret;exact⟨NC,SD,BD⟩)
open Go.Extern.Stop Go.Stop Go.Extern
open Go.Value renaming pointer→pT,bool→qU
open Go.Ending renaming returned→rT
open _root_.Option renaming map_eq_some_iff→xz
open Go renaming Value→qB
theorem De(c:Int)(u:TypeId)(v:qB)(w:qM):
 Calls prog 115 #[.int .i64 c,.iface u v] w fun e w'=>e= rT (.iface 141 (pT (w)))/\w'=w.alloc (.cells #[.int .i64 c,.iface u v] 145):=by
 go_enter func115,ntmps115
 go_wp2;go_ret;exact⟨rfl,rfl⟩
theorem Bv(u:TypeId)(v:qB)(w:qM):
 Calls prog 174 #[.iface u v] w fun e w'=>e= rT (.iface 141 (pT (w)))/\w'=w.alloc (.cells #[.int .i64 4,.iface u v] 145):=by
 go_enter func174,ntmps174
 go_wp2_with fail
 refine(De 4 u v w).mono ?_;rintro e w' ⟨rfl,rfl⟩;go_wp2;go_ret;exact⟨rfl,rfl⟩
theorem bK(t:qB)(w:qM):Calls prog 81 #[.nilIface,t] w fun e w'=>e= rT (qU false)/\w'=w:=by
 go_enter func81,ntmps81
 go_wp2;go_ret;exact⟨rfl,rfl⟩
theorem cN(u:TypeId)(v:qB)(w:qM):Calls prog 80 #[.nilIface,.iface u v] w fun e w'=>e= rT (qU false)/\w'=w:=by
 have hn:=run_eql_iface_nil_left (P:=prog) w u v underlying137;go_enter func80,ntmps80
 go_wp2;go_ret;exact⟨rfl,rfl⟩
theorem Tm(v:qB)(w:qM):(Extern.ReflectliteType.typeOf #[.iface 314 v]).run prog w= .ok (.iface 209 (.agg #[pT (some ⟨18,314,none⟩)])) w:=by kernel_rfl
theorem Mh(w:qM):((Extern.ReflectliteType.method fun t=>do Rtype.noPackHeld "Comparable" t;(fun a=>Value.bool a.comparable)<$>typeInfo t) #[.agg #[pT (some ⟨18,314,none⟩)]]).run prog w= .ok (qU true) w:=by kernel_rfl
theorem Kr(v:qB)(w:qM):(Go.method 446 209 v "Comparable").run prog w= .ok (273,v) w:=by kernel_rfl
theorem Zf:(prog.info? 314).map (·.comparable)=some true:=by kernel_rfl
theorem ak:(prog.info? 334).map (·.size)=some 1:=by kernel_rfl
theorem ZG(v:qB)(xT:TypeId)(w:qM):(Instr.typeAssert (.iface 314 v) xT 211 true).run prog w= .ok (.tuple #[.nilIface,qU false]) w:=run_typeAssert_lacksB underlying211 kR kR v xT w
theorem Pl(v:qB)(xT:TypeId)(w:qM):(Instr.typeAssert (.iface 314 v) xT 214 true).run prog w= .ok (.tuple #[.nilIface,qU false]) w:=run_typeAssert_lacksB underlying214 kR kR v xT w
theorem M8(v:qB)(xT:TypeId)(w:qM):(Instr.typeAssert (.iface 314 v) xT 215 true).run prog w= .ok (.tuple #[.nilIface,qU false]) w:=run_typeAssert_lacksB underlying215 kR kR v xT w
theorem ZQ(v:qB)(xT:TypeId)(w:qM):(Instr.typeAssert (.iface 141 v) xT 211 true).run prog w= .ok (.tuple #[.nilIface,qU false]) w:=run_typeAssert_lacksB underlying211 kR kR v xT w
theorem MX(v:qB)(xT:TypeId)(w:qM):(Instr.typeAssert (.iface 141 v) xT 214 true).run prog w= .ok (.tuple #[.iface 141 v,qU true]) w:=run_typeAssert_hasB underlying214 kR v xT w
theorem QJ(v:qB)(w:qM):(Go.method 446 141 v "Unwrap").run prog w= .ok (267,v) w:=by kernel_rfl
theorem eD(r:Nat)(c:Int)(b:Addr)(w:qM)(hr:Ag w r (.cells #[.int .i64 c,.iface 314 (pT (some b))] 145)):
 Calls prog 80 #[.iface 141 (pT r),.iface 314 (pT (some b))] w fun e w'=>e= rT (qU true)/\w'=w:=by
 obtain⟨i,hi,hcmp⟩:=xz.1 Zf;obtain⟨j,hj,hjs⟩:=xz.1 ak;have h8:=@run_callFunc_extern prog 119 _ Extern.ReflectliteType.typeOf func119 kR kR kR kR;have h32:=@run_callFunc_extern prog 273 _ (Extern.ReflectliteType.method fun t=>do Rtype.noPackHeld "Comparable" t;pure (qU (<-typeInfo t).comparable)) func273 kR kR kR kR;have tT:=Tm;have cT:=Mh;have mR:=Kr;have nE:=ZG;have uE:=Pl;have vE:=M8;have nW:=ZQ;have uW:=MX;have mU:=QJ;obtain⟨q0,q1⟩:=hr.two;have heq:=run_eql_iface_ptr_same (P:=prog) w b underlying137 underlying314 hi hcmp hj;have hty:=run_eql_iface_types (P:=prog) 141 314 (pT r) (pT (some b)) underlying137 qX w;go_enter func80,ntmps80
 go_wp2;refine wp_loop_rounds 2 ?_;rw[rounds_succ];go_wp2;rw[rounds_succ];go_wp2;go_ret;exact⟨rfl,rfl⟩
theorem dZ(r:Nat)(c:Int)(a b:Addr)(ca cb:Array qB)(ta tb:TypeId)(w:qM)(hr:Ag w r (.cells #[.int .i64 c,.iface 314 (pT (some a))] 145))(hne:a≠b)(ha:w.heap[a.block]? =some (.cells ca ta (0,0)))(hb:w.heap[b.block]? =some (.cells cb tb (0,0))):
 Calls prog 80 #[.iface 141 (pT r),.iface 314 (pT (some b))] w fun e w'=>e= rT (qU false)/\w'=w:=by
 obtain⟨i,hi,hcmp⟩:=xz.1 Zf;obtain⟨j,hj,hjs⟩:=xz.1 ak;have h8:=@run_callFunc_extern prog 119 _ Extern.ReflectliteType.typeOf func119 kR kR kR kR;have h32:=@run_callFunc_extern prog 273 _ (Extern.ReflectliteType.method fun t=>do Rtype.noPackHeld "Comparable" t;pure (qU (<-typeInfo t).comparable)) func273 kR kR kR kR;have tT:=Tm;have cT:=Mh;have mR:=Kr;have nE:=ZG;have uE:=Pl;have vE:=M8;have nW:=ZQ;have uW:=MX;have mU:=QJ;obtain⟨q0,q1⟩:=hr.two;have heq:=run_eql_iface_ptr_other (P:=prog) w underlying137 underlying314 hi hcmp hj (by rw[hjs];decide) hne ha hb;have hty:=run_eql_iface_types (P:=prog) 141 314 (pT r) (pT (some b)) underlying137 qX w;go_enter func80,ntmps80
 go_wp2;refine wp_loop_rounds 2 ?_;rw[rounds_succ];go_wp2;rw[rounds_succ];go_wp2;go_ret;exact⟨rfl,rfl⟩
theorem LR(base:Int)(a:Option Addr)(n cap:Nat)(f g:Nat->Int)(w:World)(hn:n<=1048576)(hc:Bd w a n f g)
 (hw:∀i,i<n->(Lit.int .i64 (f i)).wf=true/\(Lit.int .i64 (g i)).wf=true):
 Calls prog 205 #[.agg #[.int .i64 base,.slice a n cap]] w fun e w'=>∃c,e= .returned (.agg #[.int .i64 base,.map (some c)])/\w.heap.size<=c/\Bu w' c n (look f g n)/\w.heap.size+3<w'.heap.size/\Below w.heap.size w w':=by
 have hmm:=@run_makeMap prog;go_enter func205,ntmps205
 go_wp2;go_loopw [13] (fun i wr=>∃k:Nat,k<=n/\i= .int .i64 k/\Bu wr (w.heap.size+1+1) k (look f g k)/\wr.cell? ⟨w.heap.size+1+1+1,0,none⟩=some (.int .i64 base)/\wr.cell? ⟨w.heap.size+1+1+1,1,none⟩=some (.map (some (w.heap.size+1+1)))/\
  wr.cell? ⟨w.heap.size+1,0,none⟩=some (.int .i64 0)/\wr.cell? ⟨w.heap.size+1,1,none⟩=some (.map none)/\wr.frozen? ⟨w.heap.size+1,0,none⟩=false/\wr.frozen? ⟨w.heap.size+1,1,none⟩=false/\w.heap.size+1+1+1<wr.heap.size/\Below w.heap.size w wr) (fun i _=>n-(intOf i).toNat)
 case atStart=>
  refine⟨0,Nat.zero_le _,rfl,?_,by go_simp,by go_simp,by go_simp,by go_simp,by go_simp,by go_simp,by simp,?_⟩
  ·have:=(Bu.made ((w.alloc (.cells #[.int .i64 base,.slice a n cap] 42)).alloc (.cells #[.int .i64 0,.map none] 277))).alloc (.cells #[.int .i64 base,.map (some (w.heap.size+1+1))] 277);simpa[look]using this
  ·exact(((Bg w _).alloc sI _).alloc sO _).alloc sO _
 case round=>
  obtain⟨k,hk,rfl,⟨D,hown,hD,hm⟩,x0,x1,y0,y1,f0,f1,hz,hB⟩:=hrel;clear hmm;by_cases hlt':k<n
  ·obtain⟨b,off,rfl,hlt,hcc⟩:=hc qQ;obtain⟨h1,h2⟩:=hcc k hlt';obtain⟨w1,w2⟩:=hw k hlt';have g1:wr.cell? ⟨b,off+k*2,none⟩=some (.int .i64 (f k)):=(hB.cell (p:=⟨b,_,none⟩) hlt).trans h1;have g2:wr.cell? ⟨b,off+k*2+1,none⟩=some (.int .i64 (g k)):=(hB.cell (p:=⟨b,_,none⟩) hlt).trans h2;clear h1 h2 hcc hc;have hkey:keyOf prog 2 (.int .i64 (f k))=some (.int .i64 (f k)):=keyOf_int_mk underlying2 w1;have W2:Hid ((Lit.int .i64 (g k)).wf=true):=w2;clear w1 w2;go_wp2_with(at_mapUpdate;refine wpList_mapUpdate_own _ rfl _ _ _ 108 rfl 2 2 Ip underlying108 _ (w.heap.size+1+1) k _ rfl (hown.alloc _) (by unfold maxLen;omega) _ _ _ rfl rfl hkey _ [] (plainElem_int underlying2 W2.out) ?_;intro w1 hown1 hgrow1)
   have hm1:=Bu.put (k:=f k) (v:=g k) hD hm;rw[OV]at hm1;have s1:w.heap.size+1+1+1<(wr.alloc (.cells #[.int .i64 (f k),.int .i64 (g k)] 96)).heap.size:=sO;go_roundw;case rel=>
    refine⟨k+1,by omega,by go_num,⟨_,hown1,hm1.1,hm1.2⟩,?_,?_,?_,?_,?_,?_,Nat.lt_of_lt_of_le s1 hgrow1.size,?_⟩
    ·exact(Ct hgrow1 s1 qQ).trans ((Bg wr _).cell (p:=⟨_,_,none⟩) hz |>.trans x0)
    ·exact(Ct hgrow1 s1 qQ).trans ((Bg wr _).cell (p:=⟨_,_,none⟩) hz |>.trans x1)
    ·exact(Ct hgrow1 qQ qQ).trans ((Bg wr _).cell (p:=⟨_,_,none⟩) qJ |>.trans y0)
    ·exact(Ct hgrow1 qQ qQ).trans ((Bg wr _).cell (p:=⟨_,_,none⟩) qJ |>.trans y1)
    ·exact(Ha hgrow1 qQ qQ).trans ((Bg wr _).frozen (p:=⟨_,_,none⟩) qJ |>.trans f0)
    ·exact(Ha hgrow1 qQ qQ).trans ((Bg wr _).frozen (p:=⟨_,_,none⟩) qJ |>.trans f1)
    ·exact(hB.alloc qQ _).grown hgrow1 qQ (fun j hj=>by cases hj;omega)
   case measure=>simp[intOf];omega
  ·clear hc;have e:k=n:=qQ;have HM:Bu wr (w.heap.size+1+1) n (look f g n):=(by rw[<-e];exact⟨D,hown,hD,hm⟩);clear hown hD hm e;go_wp2;refine bodyPost_ret (v:= .agg #[.int .i64 base,.map (some (w.heap.size+1+1))]) (by simp[results,Tryz.results205,go_sem, *]) rfl ⟨_,rfl,by omega,?_,?_,?_⟩
   ·exact(HM.setCell qJ _).setCell qJ _
   ·simpa using hz
   ·exact(hB.setCell qJ _).setCell qJ _
end Go.Proofs.YtdaccbddcjlkpaaGreatDoor
