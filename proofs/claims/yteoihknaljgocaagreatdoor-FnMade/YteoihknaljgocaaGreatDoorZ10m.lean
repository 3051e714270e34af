import Derived.Shelf.SlIterI.Nil
import Derived.Shelf.SortM.Plain
import Derived.Shelf.SortM.SortNone
import Derived.Ground.GgzProg
import Derived.Ground.SlgmProg
import Derived.Ground.SlmcProg
import Derived.Ground.SlmpProg
import Derived.Shelf.SlMaps.Clone
import Derived.Shelf.SlMaps.Copy
import Derived.Sort.OwnSortedInts
import Derived.Test.YteoihknaljgocaaGreatDoorKB10m
set_option maxRecDepth 100000
set_option maxHeartbeats 16000000
namespace Go.Proofs.YteoihknaljgocaaGreatDoor
open Go.Shelf Go.Proofs.Tryz
def Tryz.keysA_ren:Go.Shelf.Ren:=⟨fun|7=>118|10=>144|n=>n,fun|23=>129|26=>2|3=>2|28=>82|0=>0|27=>81|33=>128|4=>4|n=>n,fun|n=>n⟩
theorem Tryz.keysA:Go.Proofs.SlLaysZI.n7 prog Tryz.keysA_ren:={
 mixed:=by kernel_rfl
 f7:=⟨Tryz.f118.name,by decide,func118.trans (congrArg some (by kernel_rfl))⟩
 f10:=⟨Tryz.f144.name,by decide,func144.trans (congrArg some (by kernel_rfl))⟩
 t0:=underlying0
 a0:=isAgg0
 z0:=sizeOf0
 v0:=zeroValue0
 t4:=underlying4
 a4:=isAgg4
 z4:=sizeOf4
 v4:=zeroValue4
 t23:=underlying129
 a23:=isAgg129
 z23:=sizeOf129
 v23:=zeroValue129
 t26:=underlying2
 a26:=isAgg2
 z26:=sizeOf2
 v26:=zeroValue2
 t27:=underlying81
 a27:=isAgg81
 z27:=sizeOf81
 v27:=zeroValue81
 t28:=underlying82
 a28:=isAgg82
 z28:=sizeOf82
 v28:=zeroValue82
 t33:=underlying128
 a33:=isAgg128
 z33:=sizeOf128
 v33:=zeroValue128}
def Tryz.sortedA_ren:Go.Shelf.Ren:=⟨fun|6=>117|8=>143|9=>141|11=>155|13=>149|12=>154|23=>165|24=>166|14=>170|15=>171|16=>172|17=>173|18=>174|19=>175|20=>176|21=>177|22=>178|25=>190|26=>184|27=>185|28=>191|29=>192|30=>150|31=>200|n=>n,fun|26=>2|28=>82|24=>37|0=>0|3=>3|37=>174|48=>220|50=>172|4=>4|40=>213|39=>212|45=>217|5=>5|9=>9|51=>240|55=>243|57=>251|58=>252|33=>128|n=>n,fun|n=>n⟩
theorem Tryz.sortedA:Go.Proofs.SlLaysZI.n6 prog Tryz.sortedA_ren:={
 mixed:=by kernel_rfl
 f6:=⟨Tryz.f117.name,by decide,func117.trans (congrArg some (by kernel_rfl))⟩
 f8:=⟨Tryz.f143.name,by decide,func143.trans (congrArg some (by kernel_rfl))⟩
 f11:=⟨Tryz.f155.name,by decide,func155.trans (congrArg some (by kernel_rfl))⟩
 t0:=underlying0
 a0:=isAgg0
 z0:=sizeOf0
 v0:=zeroValue0
 t24:=underlying37
 a24:=isAgg37
 z24:=sizeOf37
 v24:=zeroValue37
 t26:=underlying2
 a26:=isAgg2
 z26:=sizeOf2
 v26:=zeroValue2
 t28:=underlying82
 a28:=isAgg82
 z28:=sizeOf82
 v28:=zeroValue82
 i26:=by kernel_rfl}
def Tryz.sortA_ren:Go.Shelf.Ren:=⟨fun|5=>141|8=>149|7=>154|19=>165|20=>166|10=>170|11=>171|12=>172|13=>173|14=>174|15=>175|16=>176|17=>177|18=>178|30=>190|31=>184|32=>185|33=>191|34=>192|35=>150|40=>200|n=>n,fun|23=>37|25=>2|3=>3|32=>174|22=>37|0=>0|44=>220|46=>172|4=>4|36=>213|35=>212|41=>217|5=>5|9=>9|53=>240|57=>243|63=>251|64=>252|n=>n,fun|n=>n⟩
theorem Tryz.sortA:Go.Proofs.SlLaysM.n5 prog Tryz.sortA_ren:={
 mixed:=by kernel_rfl
 f5:=⟨Tryz.f141.name,by decide,func141.trans (congrArg some (by kernel_rfl))⟩
 f7:=⟨Tryz.f154.name,by decide,func154.trans (congrArg some (by kernel_rfl))⟩
 f8:=func149.trans (congrArg some (by kernel_rfl))
 f10:=⟨Tryz.f170.name,by decide,func170.trans (congrArg some (by kernel_rfl))⟩
 f11:=⟨Tryz.f171.name,by decide,func171.trans (congrArg some (by kernel_rfl))⟩
 f12:=⟨Tryz.f172.name,by decide,func172.trans (congrArg some (by kernel_rfl))⟩
 f13:=⟨Tryz.f173.name,by decide,func173.trans (congrArg some (by kernel_rfl))⟩
 f14:=⟨Tryz.f174.name,by decide,func174.trans (congrArg some (by kernel_rfl))⟩
 f15:=⟨Tryz.f175.name,by decide,func175.trans (congrArg some (by kernel_rfl))⟩
 f16:=⟨Tryz.f176.name,by decide,func176.trans (congrArg some (by kernel_rfl))⟩
 f17:=⟨Tryz.f177.name,by decide,func177.trans (congrArg some (by kernel_rfl))⟩
 f18:=⟨Tryz.f178.name,by decide,func178.trans (congrArg some (by kernel_rfl))⟩
 f19:=func165.trans (congrArg some (by kernel_rfl))
 f20:=func166.trans (congrArg some (by kernel_rfl))
 f30:=⟨Tryz.f190.name,by decide,func190.trans (congrArg some (by kernel_rfl))⟩
 f31:=func184.trans (congrArg some (by kernel_rfl))
 f32:=func185.trans (congrArg some (by kernel_rfl))
 f33:=⟨Tryz.f191.name,by decide,func191.trans (congrArg some (by kernel_rfl))⟩
 f34:=⟨Tryz.f192.name,by decide,func192.trans (congrArg some (by kernel_rfl))⟩
 f35:=⟨Tryz.f150.name,by decide,func150.trans (congrArg some (by kernel_rfl))⟩
 f40:=⟨Tryz.f200.name,by decide,func200.trans (congrArg some (by kernel_rfl))⟩
 t0:=underlying0
 a0:=isAgg0
 z0:=sizeOf0
 v0:=zeroValue0
 t3:=underlying3
 a3:=isAgg3
 z3:=sizeOf3
 v3:=zeroValue3
 t4:=underlying4
 a4:=isAgg4
 z4:=sizeOf4
 v4:=zeroValue4
 t5:=underlying5
 a5:=isAgg5
 z5:=sizeOf5
 v5:=zeroValue5
 t9:=underlying9
 a9:=isAgg9
 z9:=sizeOf9
 v9:=zeroValue9
 t22:=underlying37
 a22:=isAgg37
 z22:=sizeOf37
 v22:=zeroValue37
 t23:=underlying37
 a23:=isAgg37
 z23:=sizeOf37
 v23:=zeroValue37
 t25:=underlying2
 a25:=isAgg2
 z25:=sizeOf2
 v25:=zeroValue2
 t32:=underlying174
 a32:=isAgg174
 z32:=sizeOf174
 v32:=zeroValue174
 t35:=underlying212
 a35:=isAgg212
 z35:=sizeOf212
 v35:=zeroValue212
 t36:=underlying213
 a36:=isAgg213
 z36:=sizeOf213
 v36:=zeroValue213
 t41:=underlying217
 a41:=isAgg217
 z41:=sizeOf217
 v41:=zeroValue217
 t44:=underlying220
 a44:=isAgg220
 z44:=sizeOf220
 v44:=zeroValue220
 t46:=underlying172
 a46:=isAgg172
 z46:=sizeOf172
 v46:=zeroValue172
 t53:=underlying240
 a53:=isAgg240
 z53:=sizeOf240
 v53:=zeroValue240
 t57:=underlying243
 a57:=isAgg243
 z57:=sizeOf243
 v57:=zeroValue243
 t63:=underlying251
 a63:=isAgg251
 z63:=sizeOf251
 v63:=zeroValue251
 t64:=underlying252
 a64:=isAgg252
 z64:=sizeOf252
 v64:=zeroValue252}
def Tryz.cloneA_ren:Go.Shelf.Ren:=⟨fun|5=>115|7=>142|n=>n,fun|23=>129|25=>2|3=>2|4=>4|20=>20|n=>n,fun|n=>n⟩
theorem Tryz.cloneA:Go.Proofs.SlLaysW.n5 prog Tryz.cloneA_ren:={
 mixed:=by kernel_rfl
 f5:=⟨Tryz.f115.name,by decide,func115.trans (congrArg some (by kernel_rfl))⟩
 f7:=func142.trans (congrArg some (by kernel_rfl))
 t4:=underlying4
 a4:=isAgg4
 z4:=sizeOf4
 v4:=zeroValue4
 t20:=underlying20
 a20:=isAgg20
 z20:=sizeOf20
 v20:=zeroValue20
 t23:=underlying129
 a23:=isAgg129
 z23:=sizeOf129
 v23:=zeroValue129}
def Tryz.copyA_ren:Go.Shelf.Ren:=⟨fun|5=>116|n=>n,fun|23=>129|24=>129|26=>2|27=>2|0=>0|4=>4|n=>n,fun|n=>n⟩
theorem Tryz.copyA:Go.Proofs.SlLaysX.n5 prog Tryz.copyA_ren:={
 mixed:=by kernel_rfl
 f5:=⟨Tryz.f116.name,by decide,func116.trans (congrArg some (by kernel_rfl))⟩
 t0:=underlying0
 a0:=isAgg0
 z0:=sizeOf0
 v0:=zeroValue0
 t4:=underlying4
 a4:=isAgg4
 z4:=sizeOf4
 v4:=zeroValue4
 t23:=underlying129
 a23:=isAgg129
 z23:=sizeOf129
 v23:=zeroValue129
 t24:=underlying129
 a24:=isAgg129
 z24:=sizeOf129
 v24:=zeroValue129
 a26:=isAgg2
 z26:=sizeOf2
 a27:=isAgg2
 z27:=sizeOf2}
open Go Go.RowKit Go.Deep Go.Maps Go.Sort
variable {w:World}{v:Value}{l:List Int}
def Ct(l:List Int):List Int:=l.mergeSort (fun x y=>decide (x<=y))
theorem GK(l:List Int):(Ct l).length=l.length:=by simp[Ct]
theorem Rv(B:Nat)(v:Value)(l:List Int)(w:World)(h:Ay w B v l)(hl:l.length<=100000):
 Calls prog 141 #[v] w fun e w'=>e= .returned (.tuple #[])/\Ay w' B v (Ct l)/\w.grownBy w' v.ownBlock:=by
 rcases h.2 with⟨rfl,hn⟩|⟨g,cap,cur,rfl,hB,hb,h1,h2,h3,h4⟩
 ·have e0:l=[]:=List.eq_nil_of_length_eq_zero hn;subst e0;refine(AnyM.slices_Sort_int_none Tryz.sortA none 0 w).mono ?_;rintro e w' ⟨rfl,rfl⟩;have e0:Ct []=[]:=by simp[Ct]
  rw[e0];exact⟨rfl,h,⟨rfl,rfl,rfl,Nat.le_refl _,fun _ _ _=>rfl⟩⟩
 ·have hlt:g<w.heap.size:=(Array.getElem?_eq_some_iff.1 hb).1;refine(AnyM.slices_Sort_int Tryz.sortA g 0 cap l w (holds_of_blockI hb (by simpa using h4)) hlt (by omega)).mono ?_;rintro e w' ⟨rfl,n,os,rfl⟩;refine⟨rfl,?_,grownBy_sortedI _⟩;have:=ownsRow_sortedI (n:=n) (os:=os) (ts:=Ct l) (GK l) hB hb h1 h2 h3;unfold Ay;rw[GK];exact this
theorem LR.sorted{w0 w':World}{c:Nat}{l':List Int}(h:LR w0 c w v l)(ho:Ay w' (w0.heap.size+1+1+1) v l')(hg:w.grownBy w' v.ownBlock):LR w0 c w' v l':=by
 have hne:∀k,k<w0.heap.size+1+1+1->some k≠v.ownBlock:=fun k hk e=>by have:=(World.ownsRow.lt h.o k e.symm).1;omega
 exact⟨h.b.trans (below_grown hg h.b.size (fun j hj=>by have:=(World.ownsRow.lt h.o j hj).1;omega)),h.q.grown hg (hne _ (by omega)),h.p.grown hg (hne _ (by omega)),h.r.grown hg (hne _ (by omega)),ho⟩
theorem Ay.low{B B':Nat}(h:Ay w B v l)(hB:B'<=B):Ay w B' v l:=by
 refine⟨h.1,?_⟩;rcases h.2 with hn|⟨g,cap,cur,hv,hb,rest⟩
 ·exact .inl hn
 ·exact .inr ⟨g,cap,cur,hv,by omega,rest⟩
theorem P8(w:World)(B c n:Nat)(ids ups:Nat->Int)(ob off:Nat)(nb:Nat->Nat)(kv:Nat->Value)(hN:Eb w B c n ids ob off nb kv (Bz ids ups n))(hr:Du ids n)(h0:∀j,j<n->ids j≠ups 0)
 (hw:∀i,i<n->(Lit.int .i64 (ids i)).wf=true)(hn:n<=271)(i:Nat)(hi:i<n)(hc:Hh ids ups n i):
 Calls prog 113 #[.map (some c),.int .i64 (ids i)] w fun e w'=>∃v,e= .returned v/\Ay w' w v (Ct ((FG ids ups n n i).map ids))/\Below w w w':=by
 have hst:=fun(W:World) (a:Addr) (x y:Array Value) (m:Mode)=>run_store prog W a (.func (.func 140) x y) m rfl;have n1:Nw (w.alloc (.cells #[.map (some c)] 71)):=⟨⟩;have b1:Below w w n1:=Bf w _;have LK:=(hN.map.below b1).look (hw i hi);rw[Dt hr hi]at LK;simp only[Option.map_some]at LK;have hlen:(FG ids ups n n i).length<=n:=GN (Is hr h0 hi hc) (fun x hx=>((Ev hr h0 hi).1 hx).1);have n2:No (.cells #[MV w.heap.size] 199):=⟨⟩;have n3:No (.cells #[.slice none 0 0] 37):=⟨⟩;have W0:LR w c (((n1:World).alloc n3).alloc n2) (.slice none 0 0) []:=by
  refine⟨?_,?_,?_,?_,Ay.nil _ _⟩
  ·exact(b1.alloc b1.size _).alloc (b1.alloc b1.size _).size _
  ·exact((Ag.new w _).alloc _).alloc _
  ·have:=(Ag.new n1 n3).alloc n2;simpa using this
  ·have:=Ag.new ((n1:World).alloc n3) n2;simpa using this
 have C1:=hid (Xp w B c n ids ups ob off nb kv hN hr h0 hw hn n i [] (.slice none 0 0) _ hi (fun j m hj e=>Nz hc hj e) (by simp;omega) W0);unfold MV at C1;simp only[List.nil_append]at C1;clear W0 hN h0 hw hr;go_enter func113,ntmps113
 go_wp2_with fail
 refine C1.out.mono ?_;rintro e w2 ⟨v2,rfl,h2⟩;have H2:=hid h2;have x1:_=some v2:=h2.p.c0 0 rfl;have C2:=hid (Rv _ v2 _ w2 h2.o (by rw[List.length_map];omega));clear h2 C1 LK;go_wp2_with fail
 refine C2.out.mono ?_;rintro e w3 ⟨rfl,o3,g3⟩;have H3:=hid (H2.out.sorted o3 g3);have x3:_=some v2:=H3.out.p.c0 0 rfl;clear o3 g3 x1 C2 H2;go_wp2;go_ret;exact⟨v2,rfl,H3.out.o.low (by omega),H3.out.b⟩
theorem Ul{n:Nat}{O:Nat->Ab}(h:Cn n O=true):((((Ct ((FG (fun i=>(O i).id) (fun i=>(O i).up) n n 0).map (fun i=>(O i).id))).length:Nat):Int)==(n:Int))=Fh (fun i=>(O i).id) (fun i=>(O i).up) n:=by
 rw[GK,List.length_map];obtain⟨h1,_⟩:=BZ h;have hp:=WX (Bu h) (ups:=fun i=>(O i).up) (fun j hj=>by have:=Fa h j hj;have:=(Cv h).2.2;omega) (by omega);rw[Bool.eq_iff_iff,<-hp];simp only[beq_iff_eq];omega
theorem VY{n:Nat}{O:Nat->Ab}(h:Cn n O=true):∃L:Nat,(Ct ((FG (fun i=>(O i).id) (fun i=>(O i).up) n n 0).map (fun i=>(O i).id))).length=L/\L<=271/\((L:Int)==(n:Int))=Fh (fun i=>(O i).id) (fun i=>(O i).up) n:=by
 refine⟨_,rfl,?_,Ul h⟩;rw[GK,List.length_map];obtain⟨h1,h2,_⟩:=BZ h;have:=GN (Is (Bu h) (ups:=fun i=>(O i).up) (fun j hj=>by have:=Fa h j hj;have:=(Cv h).2.2;omega) (f:=n) (i:=0) (by omega) Ga) (fun x hx=>((Ev (Bu h) (ups:=fun i=>(O i).up) (fun j hj=>by have:=Fa h j hj;have:=(Cv h).2.2;omega) (by omega)).1 hx).1);omega
theorem Sz(a:Option Addr)(n cap:Nat)(O:Nat->Ab)(w:World)(hcap:n<=cap)(hO:Hz w a n O)(h2:Cn n O=true)(hw:∀i,i<n->(Lit.int .i64 (O i).id).wf=true/\(Lit.int .i64 (O i).up).wf=true):
 Calls prog 66 #[.slice a n cap] w fun e w'=>e= .returned (.bool (IP n O&&Fh (fun i=>(O i).id) (fun i=>(O i).up) n))/\Below w w w':=by
 obtain⟨on1,on2,_,_⟩:=BZ h2;have HO:=hid hO;obtain⟨ob,off,rfl,_,_⟩:=hO (by omega);have HW:=hid hw;have H2:=hid h2;obtain⟨L,eL,hL,rL⟩:=VY h2;have EL:=hid eL;have RL:=hid rL;clear eL rL;clear hO h2 hw;have C1:=hid (Hm ob off n cap O w on2 HO (Bu H2) HW);go_enter func66,ntmps66
 go_wp2_with fail
 refine C1.out.mono ?_;rintro e w1 ⟨c,nb,kv,rfl,hN,b1⟩;have HN:=hid hN;clear hN C1;have END:Hid (∀wr:World,Below w1 w1 wr->Calls prog 113 #[.map (some c),.int .i64 1] wr fun e w'=>∃a2 k2,e= .returned (.slice a2 L k2)/\Below wr wr w'):=hid (fun wr hb=>by
  have:=P8 wr w c n (fun i=>(O i).id) (fun i=>(O i).up) ob off nb kv (HN.out.below hb) (Bu H2) (fun j hj=>by have:=Fa H2 j hj;have:=(Cv H2).2.2;omega) (fun i hi=>(HW i hi).1) on2 0 (by omega) Ga;rw[(Cv H2.out).1]at this;refine this.mono ?_;rintro e w' ⟨v,rfl,o,b⟩;obtain⟨a2,k2,rfl⟩:=Df o;rw[EL.out];exact⟨a2,k2,rfl,b⟩)
 have c1:(n:Int)<=(cap:Int):=by omega
 have c2:(1:Int)<=(n:Int):=by omega
 by_cases hok:cap=1
 ·obtain rfl:n=1:=by omega
  subst hok;go_wp2;go_loopw [12] (fun i wr=>i= .int .i64 0/\Below w1 w1 wr) (fun i _=>0)
  case atStart=>exact⟨rfl,Below.refl _ _⟩
  case round=>
   obtain⟨rfl,hB⟩:=hrel;go_wp2_with fail
   refine(END wr hB).mono ?_;rintro e w2 ⟨a2,k2,rfl,b2⟩;go_wp2;go_ret;refine⟨Ah ?_,Af b1 (Af hB b2)⟩;rw[<-RL.out];simp[IP]
 ·go_wp2;go_loopw [12] (fun i wr=>∃q:Nat,q<=n-1/\i= .int .i64 q/\Hid (∀p,p<q->Fz n O (O (p+1)).up=true)/\Below w1 w1 wr) (fun i _=>n-1-(intOf i).toNat)
  case atStart=>exact⟨0,Nat.zero_le _,rfl,hid (fun p hp=>by omega),Below.refl _ _⟩
  case round=>
   obtain⟨q,hq,rfl,HA,hB⟩:=hrel;by_cases hlt2:q<n-1
   ·obtain⟨_,_,ea,hlt0,hcc⟩:=(HO.out.below b1).below hB (by omega);cases ea;obtain⟨⟨q0,q1,q2,q3,q4,q5,q6,q7,q8,q9⟩,ht⟩:=hcc (q+1) (by omega);have ei:off+(q+1)*10=off+10+q*10:=(by omega);rw[ei]at q0 q1 q2 q3 q4 q5 q6 q7 q8 q9;have i2:(q:Int)<((n-1:Nat):Int):=(by omega);simp only[Ar.val,AJ.val,AH.val]at q4 q6 q7 q9;have bC:Below wr wr (wr.alloc (.cells (O (q+1)) 44)):=Bf wr _;have BC:=Af hB bC;have N1:=hid (HN.out.below BC);have LK:=N1.out.map.look (x:=(O (q+1)).up) (HW (q+1) (by omega)).2;cases hf:Bg (fun i=>(O i).id) n (O (q+1)).up with
    |none=>
     have BO:Hid (Fz n O (O (q+1)).up=false):=hid (by simp[Fz,hf]);rw[hf]at LK;simp only[Option.map_none]at LK;clear hcc ht ei hf;go_wp2;go_ret;exact⟨Ah (by rw[IP,He hlt2 BO.out];rfl),Af b1 BC⟩
    |some u=>
     obtain⟨hu,_⟩:=Av hf;have BO:Hid (Fz n O (O (q+1)).up=((O u).kind==3)):=hid (by simp[Fz,hf]);rw[hf]at LK;simp only[Option.map_some]at LK;have k1:=(hcc u hu).1.c1;have k2:=(bC.cell (p:=⟨ob,off+u*10+1,none⟩) hlt0).trans k1;have n1:_=some (Value.pointer (some ⟨ob,off+u*10,none⟩)):=(N1.out.blk u hu).c0 0 rfl;clear hcc ht ei hf k1;cases c3:((O u).kind==3)with
     |false=>
      rw[c3]at BO;have c3':¬(O u).kind=3:=(by simpa using c3);go_wp2;go_ret;exact⟨Ah (by rw[IP,He hlt2 BO.out];rfl),Af b1 BC⟩
     |true=>
      rw[c3]at BO;have c3':(O u).kind=3:=(by simpa using c3);rw[c3']at k2;clear c3;go_wp2;refine⟨⟨q+1,by omega,by go_num,hid (fun p hp=>?_),BC⟩,by simp[intOf];omega⟩;by_cases e:p=q
      ·subst e;exact BO.out
      ·exact HA.out p (by omega)
   ·have e:q=n-1:=(by omega);subst e;go_wp2_with fail
    refine(END wr hB).mono ?_;rintro e w2 ⟨a2,k2,rfl,b2⟩;go_wp2;go_ret;refine⟨Ah ?_,Af b1 (Af hB b2)⟩;rw[IP,Er HA.out,Bool.true_and,<-RL.out]
theorem Hk(k:Aw)(w:World)(hk:k.at w)(hcap:k.on<=k.ok)(hw:∀i,i<k.on->(Lit.int .i64 (k.O i).id).wf=true/\(Lit.int .i64 (k.O i).up).wf=true):
 Calls prog 24 #[k.val] w fun e w'=>e= .returned (.bool (Bj k))/\Below w w w':=by
 have n1:No (.cells #[.slice k.ta k.tn k.tk,.slice k.oa k.on k.ok] 27):=⟨⟩;have hb0:=(Below.refl _ w).alloc nr n1;have A0:=Ag.new w n1;have T0:=hid (hk.below hb0);have HW:=hid hw;have HC:=hid hcap;unfold Aw.val;obtain⟨x0,x1⟩:=A0.two;clear hk hw hcap;go_enter func24,ntmps24
 go_wp2_with fail
 refine(Pk _ _ _ k.T _ T0.out.1 T0.out.2.2.1).mono ?_;rintro e w1 ⟨rfl,hb1⟩;have A1:=A0.below hb1;have T1:=hid (T0.out.below hb1);have B1:=Af hb0 hb1;clear x0 x1 A0 T0 hb0 hb1;obtain⟨x0,x1⟩:=A1.two;cases t1:By k.tn k.T with
 |false=>
  go_wp2;go_ret;exact⟨Ah (GI t1).symm,B1⟩
 |true=>
 go_wp2_with fail
 refine(Ov _ _ _ k.O _ T1.out.2.1 T1.out.2.2.2).mono ?_;rintro e w2 ⟨rfl,hb2⟩;have A2:=A1.below hb2;have T2:=hid (T1.out.below hb2);have B2:=Af B1 hb2;clear x0 x1 A1 T1 B1 hb2;obtain⟨x0,x1⟩:=A2.two;cases t2:Cn k.on k.O with
 |false=>
  go_wp2;go_ret;exact⟨Ah (by simp[Bj,t2]),B2⟩
 |true=>
 have C3:=hid (Oy k w2 T2 HC t1 t2 (fun i hi=>(HW i hi).1));unfold Aw.val at C3;go_wp2_with fail
 refine C3.out.mono ?_;rintro e w3 ⟨rfl,hb3⟩;have A3:=A2.below hb3;have T3:=hid (T2.out.below hb3);have B3:=Af B2 hb3;clear x0 x1 A2 T2 B2 hb3 C3;obtain⟨x0,x1⟩:=A3.two;cases t3:Gx k.tn k.T k.on k.O with
 |false=>
  go_wp2;go_ret;exact⟨Ah (by simp[Bj,t3]),B3⟩
 |true=>
 have C4:=hid (Sz k.oa k.on k.ok k.O w3 HC T3.out.2.2.2 t2 HW);have OK:Hid (Bj k=(IP k.on k.O&&Fh (fun i=>(k.O i).id) (fun i=>(k.O i).up) k.on)):=hid (by simp[Bj,t1,t2,t3]);clear t1 t2 t3;go_wp2_with fail
 refine C4.out.mono ?_;rintro e w4 ⟨rfl,hb4⟩;have B4:=Af B3 hb4;rw[<-OK.out];clear x0 x1 A3 T3 B3 hb4 C4;go_wp2;go_ret;exact⟨rfl,B4⟩
variable {x:Int}{q:Nat}{k:Aw}
def IW(O:Nat->Ab)(x:Int)(q:Nat):List Int:=((List.range q).filter (fun j=>(O j).up==x)).map (fun i=>(O i).id)
theorem Zg{O:Nat->Ab}(h:(O q).up=x):IW O x (q+1)=IW O x q++[(O q).id]:=by
 simp[IW,List.range_succ,h]
theorem aC{O:Nat->Ab}(h:(O q).up≠x):IW O x (q+1)=IW O x q:=by
 simp[IW,List.range_succ,h]
theorem UR(O:Nat->Ab)(x:Int)(q:Nat):(IW O x q).length<=q:=by
 unfold IW;rw[List.length_map];exact Nat.le_trans (List.length_filter_le _ _) (by simp)
theorem XD{O:Nat->Ab}{n u:Nat}:IW O (O u).id n=Bz (fun i=>(O i).id) (fun i=>(O i).up) n u:=rfl
theorem NJ(k:Aw)(x:Int)(w:World)(hk:k.at w)(hn:k.on<=271):
 Calls prog 111 #[k.val,.int .i64 x] w fun e w'=>∃v,e= .returned v/\Ay w' w v (IW k.O x k.on)/\Below w w w':=by
 have n1:No (.cells #[.slice k.ta k.tn k.tk,.slice k.oa k.on k.ok] 27):=⟨⟩;have hb0:=(Below.refl _ w).alloc nr n1;have A0:=Ag.new w n1;have bm:=hb0.alloc hb0.size (.cells #[] 2);have A1:=A0.alloc (.cells #[] 2);have O1:=Ay.made (w.alloc n1) (w.heap.size+1) (by simp);have HT:=hid hk;unfold Aw.val;clear hk;go_enter func111,ntmps111
 go_wp2;generalize hW:((w.alloc n1).alloc (.cells #[] 2))=W at *;have O2:Ay W (w.heap.size+1) (.slice (some ⟨w.heap.size+1,0,none⟩) 0 0) []:=by simpa using O1
 clear hW hb0 A0 O1;go_loopw [5,6] (fun v i wr=>∃q:Nat,q<=k.on/\i= .int .i64 q/\Hid (Ay wr (w.heap.size+1) v (IW k.O x q))/\Ag wr w n1/\Below w w wr) (fun _ i _=>k.on-(intOf i).toNat)
 case atStart=>exact⟨0,Nat.zero_le _,rfl,hid O2,A1,bm⟩
 case round=>
  clear O2 A1 bm;obtain⟨q,hq,rfl,HO,A,hB⟩:=hrel;obtain⟨x0,x1⟩:=A.two;by_cases hlt:q<k.on
  ·obtain⟨b,off,ea,hlt0,hcc⟩:=HT.out.2.2.2.below hB (by omega);have q0:=(hcc q hlt).1.c0;have q2:=(hcc q hlt).1.c2;rw[ea]at x1;have i1:(q:Int)<(k.on:Int):=(by omega);clear hcc ea;by_cases e:(k.O q).up=x
   ·have e':((k.O q).up==x)=true:=(by simpa using e);have EQ:=hid (Zg e);have hl:=UR k.O x q;have n2:No (.cells #[.int .i64 (k.O q).id] 2):=⟨⟩;have B1:Below w w (wr.alloc n2):=hB.alloc hB.size _;have AA:=A.alloc n2;have OA:=hid (Ay.alloc HO n2);have L1:=hid (DD.one (w:=wr) (k.O q).id);have s1:w.heap.size+1<=(wr.alloc n2).heap.size:=(by have:=A.lt;simp;omega);have FIN:Hid (∀w3:World,(wr.alloc n2).grownBy w3 u5.ownBlock->Ag w3 w (.cells #[.slice k.ta k.tn k.tk,.slice k.oa k.on k.ok] 27)/\Below w w w3):=hid (fun w3 g3=>⟨AA.grown g3 (fun e=>by have:=(World.ownsRow.lt OA _ e.symm).1;omega),B1.trans (below_grown g3 B1.size (fun j hj=>by have:=(World.ownsRow.lt OA j hj).1;omega))⟩);clear e HO;go_wp2_with(refine Eg _ rfl _ _ rfl (w.heap.size+1) u5 (IW k.O x q) rfl OA _ 1 1 [(k.O q).id] rfl rfl L1 (by omega) s1 ?_;intro a3 c3 w3 o3 g3 v3)
    rw[<-EQ.out]at o3;obtain⟨f1,f2⟩:=FIN.out w3 g3;exact⟨⟨q+1,by omega,by go_num,hid (by first|exact o3|simpa[EQ.out]using o3),f1,f2⟩,by simp[intOf];omega⟩
   ·have e':((k.O q).up==x)=false:=(by simpa using e);have EQ:=hid (aC e);clear e;go_wp2;exact⟨⟨q+1,by omega,by go_num,hid (by rw[EQ.out];exact HO.out),A,hB⟩,by simp[intOf];omega⟩
  ·have i1:¬(q:Int)<(k.on:Int):=(by omega);have e:q=k.on:=(by omega);have HO2:Hid (Ay wr (w.heap.size+1) u5 (IW k.O x k.on)):=hid (by rw[<-e];exact HO.out);clear HO e;go_wp2;go_ret;exact⟨u5,rfl,HO2.out.low (by omega),hB⟩
def D4(k:Aw)(x:Int):List Int:=if Bj k=true then(match Bg (fun i=>(k.O i).id) k.on x with
 |some u=>Bz (fun i=>(k.O i).id) (fun i=>(k.O i).up) k.on u
 |none=>[])else[]
theorem Bm(h:Bj k=true):By k.tn k.T=true/\Cn k.on k.O=true/\Gx k.tn k.T k.on k.O=true/\IP k.on k.O=true/\Fh (fun i=>(k.O i).id) (fun i=>(k.O i).up) k.on=true:=by
 simp only[Bj,Bool.and_eq_true]at h;exact⟨h.1.1.1.1,h.1.1.1.2,h.1.1.2,h.1.2,h.2⟩
theorem Lb(h:Bj k=true){c:Nat}(hc:c<k.on)(h0:c≠0):∃u,Bg (fun i=>(k.O i).id) k.on (k.O c).up=some u:=by
 have hu:=Gm (Bm h).2.2.2.1 (c-1) (by omega);have e:c-1+1=c:=by omega
 simp only[e]at hu;unfold Fz at hu;split at hu
 ·rename_i u hu';exact⟨u,hu'⟩
 ·cases hu
theorem Yb(h:Bj k=false):D4 k x=[]:=by simp[D4,h]
theorem Vt(h:Bj k=true)(hx:x≠0):D4 k x=IW k.O x k.on:=by
 have ho:=(Bm h).2.1;unfold D4;rw[if_pos h];cases e:Bg (fun i=>(k.O i).id) k.on x with
 |some u=>
  obtain⟨_,rfl⟩:=Av e;rfl
 |none=>
  symm;show IW k.O x k.on=[];unfold IW;rw[List.filter_eq_nil_iff.2,List.map_nil];intro j hj;have hj':=List.mem_range.1 hj;simp only[beq_iff_eq];intro ej;by_cases j0:j=0
  ·subst j0;rw[(Cv ho).2.2]at ej;exact hx ej.symm
  ·obtain⟨u,hu⟩:=Lb h hj' j0;obtain⟨u1,u2⟩:=Av hu;exact GQ e u u1 (by rw[u2];exact ej)
theorem QM(k:Aw)(x:Int)(w:World)(hk:k.at w)(hcap:k.on<=k.ok)(hw:∀i,i<k.on->(Lit.int .i64 (k.O i).id).wf=true/\(Lit.int .i64 (k.O i).up).wf=true)(hx:(Lit.int .i64 x).wf=true):
 Calls prog 12 #[k.val,.int .i64 x] w fun e w'=>∃v,e= .returned v/\Ay w' w v (D4 k x)/\Below w w w':=by
 have n1:No (.cells #[.slice k.ta k.tn k.tk,.slice k.oa k.on k.ok] 27):=⟨⟩;have hb0:Below w w (w.alloc n1):=Bf w _;have A0:=Ag.new w n1;have HK:=hid hk;have C1:=hid (Hk k _ (hk.below hb0) hcap hw);have HW:=hid hw;have HX:=hid hx;unfold Aw.val at C1;unfold Aw.val;obtain⟨x0,x1⟩:=A0.two;clear hk hw hx;go_enter func12,ntmps12
 go_wp2_with fail
 refine C1.out.mono ?_;rintro e w1 ⟨rfl,hb1⟩;have A1:=A0.below hb1;have B1:=Af hb0 hb1;clear x0 x1 C1 A0 hb0 hb1;obtain⟨x0,x1⟩:=A1.two;cases t:Bj k with
 |false=>
  go_wp2;go_ret;exact⟨_,rfl,by rw[Yb t];exact Ay.nil _ _,B1⟩
 |true=>
  have ho:=(Bm t).2.1;obtain⟨on1,on2,_,_⟩:=BZ ho;obtain⟨ob,off,eoa,_,_⟩:=HK.out.2.2.2 (by omega);have KL:Hid (D4 k x=(match Bg (fun i=>(k.O i).id) k.on x with
   |some u=>Bz (fun i=>(k.O i).id) (fun i=>(k.O i).up) k.on u
   |none=>[])):=hid (by rw[D4,if_pos t])
  have C2:=hid (Hm ob off k.on k.ok k.O w1 on2 (by rw[<-eoa];exact(HK.out.below B1).2.2.2) (Bu ho) HW);rw[eoa]at x1;have EOA:=hid eoa;clear eoa t ho;go_wp2_with fail
  refine C2.out.mono ?_;rintro e w2 ⟨c,nb,kv,rfl,hN,hb2⟩;have HN:=hid hN;have B2:=Af B1 hb2;have LK:=hN.map.look HX.out;clear hN C2 hb2 x0 x1;cases hf:Bg (fun i=>(k.O i).id) k.on x with
  |none=>
   rw[hf]at LK KL;simp only[Option.map_none]at LK;clear hf;go_wp2;go_ret;exact⟨_,rfl,by rw[KL.out];exact Ay.nil _ _,B2⟩
  |some u=>
   obtain⟨hu,_⟩:=Av hf;rw[hf]at LK KL;simp only[Option.map_some]at LK;have y1:_=some (kv u):=(HN.out.blk u hu).c0 1 rfl;have OO:Hid (Ay w2 w (kv u) (D4 k x)):=hid (by rw[KL.out];exact(HN.out.own u hu).low B1.size);clear hf;go_wp2;go_ret;exact⟨_,rfl,OO,B2⟩
theorem VO(k:Aw)(x:Int):(D4 k x).length<=271:=by
 unfold D4;split
 ·rename_i h;obtain⟨_,h2,_⟩:=BZ (Bm h).2.1;split
  ·rename_i u _;have:=Ix (fun i=>(k.O i).id) (fun i=>(k.O i).up) k.on u;omega
  ·simp
 ·simp
theorem Ku(L:List Int)(x:Int):(DT L x).length<=L.length+1:=by
 unfold DT;split
 ·omega
 ·simp;omega
theorem X6(L:List Int)(x:Int):0<(DT L x).length:=by
 unfold DT;split
 ·rename_i h;have:=(List.getElem?_eq_some_iff.1 h).1;omega
 ·simp;omega
theorem On{L:List Int}{x y:Int}(h:y∈DT L x):y∈L∨y=x:=by
 unfold DT at h;split at h
 ·exact .inl h
 ·rw[List.mem_append,List.mem_append,List.mem_singleton]at h;rcases h with(h|h)|h
  ·exact .inl (List.mem_of_mem_take h)
  ·exact .inr h
  ·exact .inl (List.mem_of_mem_drop h)
theorem JI{L:List Int}{x:Int}(h:L.Pairwise (· <·)):(DT L x).Pairwise (· <·):=by
 unfold DT;split
 ·exact h
 ·rename_i hx;have hlo:∀y∈L.take (putAt L x),y<x:=by
   intro y hy;obtain⟨j,hj,rfl⟩:=List.getElem_of_mem hy;have hj':j<putAt L x:=(by simp at hj;omega);have:=List.not_of_lt_findIdx hj';simp at this;simpa using this
  have hhi:∀y∈L.drop (putAt L x),x<y:=by
   intro y hy;obtain⟨j,hj,rfl⟩:=List.getElem_of_mem hy;rw[List.getElem_drop];have hlen:putAt L x<L.length:=(by simp at hj;omega);have h0:¬L[putAt L x]<x:=by
    have:=List.findIdx_getElem (xs:=L) (p:=fun y=> !decide (y<x)) (w:=hlen);unfold putAt;simpa using this
   have h1:L[putAt L x]≠x:=fun e=>hx (by rw[List.getElem?_eq_getElem hlen,e]);by_cases ej:j=0
   ·subst ej;simp;omega
   ·have:=List.pairwise_iff_getElem.1 h (putAt L x) (putAt L x+j) hlen (by simp at hj;omega) (by omega);omega
  rw[List.append_assoc,List.pairwise_append];refine⟨h.sublist (List.take_sublist _ _),?_,?_⟩
  ·rw[List.singleton_append,List.pairwise_cons];exact⟨hhi,h.sublist (List.drop_sublist _ _)⟩
  ·intro y hy z hz;have h1:=hlo y hy;rw[List.singleton_append,List.mem_cons]at hz;rcases hz with rfl|hz
   ·exact h1
   ·have:=hhi z hz;omega
theorem UZ{L:List Int}{x y:Int}:y∈DT L x↔y∈L∨y=x:=by
 refine⟨On,fun h=>?_⟩;unfold DT;split
 ·rename_i e;rcases h with h|rfl
  ·exact h
  ·exact List.mem_of_getElem? e
 ·rcases h with h|rfl
  ·rw[<-List.take_append_drop (putAt L x) L]at h;rcases List.mem_append.1 h with h|h
   ·exact List.mem_append_left _ (List.mem_append_left _ h)
   ·exact List.mem_append_right _ h
  ·simp
theorem Om:∀{l m:List Int},l.Pairwise (· <·)->m.Pairwise (· <·)->(∀x,x∈l↔x∈m)->l=m
 |[],[],_,_,_=>rfl
 |[],b::m,_,_,h=>by have:=(h b).2 List.mem_cons_self;cases this
 |a::l,[],_,_,h=>by have:=(h a).1 List.mem_cons_self;cases this
 |a::l,b::m,h1,h2,h=>by
  obtain⟨a1,a2⟩:=List.pairwise_cons.1 h1;obtain⟨b1,b2⟩:=List.pairwise_cons.1 h2;have e:a=b:=by
   rcases List.mem_cons.1 ((h a).1 List.mem_cons_self)with e|e
   ·exact e
   ·rcases List.mem_cons.1 ((h b).2 List.mem_cons_self)with e'|e'
    ·exact e'.symm
    ·have:=a1 b e';have:=b1 a e;omega
  subst e;rw[Om a2 b2 fun x=>?_];constructor
  ·intro hx;rcases List.mem_cons.1 ((h x).1 (List.mem_cons_of_mem _ hx))with e|e
   ·subst e;have:=a1 x hx;omega
   ·exact e
  ·intro hx;rcases List.mem_cons.1 ((h x).2 (List.mem_cons_of_mem _ hx))with e|e
   ·subst e;have:=b1 x hx;omega
   ·exact e
theorem LG{l:List Int}{x:Int}:x∈Ct l↔x∈l:=(List.mergeSort_perm l _).mem_iff
theorem UJ{l:List Int}(h:l.Nodup):(Ct l).Pairwise (· <·):=by
 have h1:(Ct l).Pairwise (fun a b=>a<=b):=by
  have:=List.pairwise_mergeSort (le:=fun(x y:Int)=>decide (x<=y)) (fun a b c h1 h2=>by simp at *;omega) (fun a b=>by simp;omega) l;exact this.imp (fun h=>by simpa using h)
 have h2:(Ct l).Nodup:=(List.mergeSort_perm l _).nodup_iff.2 h;exact(h1.and h2).imp (fun{a b} ⟨h3,h4⟩=>by omega)
def Ee(L:List Int):List Int:=L.foldl DT []
theorem SC(L:List Int):(Ee L).Pairwise (· <·):=by
 unfold Ee;have:∀(M:List Int),M.Pairwise (· <·)->(L.foldl DT M).Pairwise (· <·):=by
  induction L with
  |nil=>intro M h;exact h
  |cons a L ih=>intro M h;exact ih _ (JI h)
 exact this [] List.Pairwise.nil
theorem Ug(L:List Int)(x:Int):x∈Ee L↔x∈L:=by
 unfold Ee;have:∀(M:List Int),x∈L.foldl DT M↔x∈M∨x∈L:=by
  induction L with
  |nil=>intro M;simp
  |cons a L ih=>intro M;rw[List.foldl_cons,ih,UZ,List.mem_cons];exact or_assoc
 rw[this []];simp
theorem Tj(L:List Int):(Ee L).length<=L.length:=by
 unfold Ee;have:∀(M:List Int),(L.foldl DT M).length<=M.length+L.length:=by
  induction L with
  |nil=>intro M;simp
  |cons a L ih=>intro M;rw[List.foldl_cons];have:=ih (DT M a);have:=Ku M a;simp only[List.length_cons];omega
 simpa using this []
section
variable {ids ups:Nat->Int}{n u:Nat}
structure UP(ids ups:Nat->Int)(n u t:Nat)(Q:List Nat):Prop where
 nodup:Q.Nodup
 head:Q[0]? =some u
 mem:∀j∈Q,j<n/\∃m,Bq ids ups n m j=some u
 closed:∀s a,s<t->Q[s]? =some a->∀c∈Dy ids ups n a,c∈Q
 origin:∀s c,0<s->Q[s]? =some c->∃r a,r<t/\Q[r]? =some a/\Jw ids ups n c=some a
theorem UP.start(hu:u<n):UP ids ups n u 0 [u]:=by
 refine⟨by simp,rfl,fun j hj=>?_,fun s a hs=>by omega,fun s c hs e=>?_⟩
 ·simp at hj;subst hj;exact⟨hu,0,rfl⟩
 ·cases s with
  |zero=>omega
  |succ s=>simp at e
theorem UP.step(hr:Du ids n)(h0:∀j,j<n->ids j≠ups 0)(hc:Hh ids ups n u){t a:Nat}{Q:List Nat}(h:UP ids ups n u t Q)(ht:Q[t]? =some a):UP ids ups n u (t+1) (Q++Dy ids ups n a):=by
 have hta:t<Q.length:=(List.getElem?_eq_some_iff.1 ht).1;obtain⟨han,ma,hma⟩:=h.mem a (List.mem_of_getElem? ht);have kid:∀c,c∈Dy ids ups n a->c<n/\Jw ids ups n c=some a:=fun c hc=>(FV hr h0 han).1 hc;have old:∀{s x},Q[s]? =some x->(Q++Dy ids ups n a)[s]? =some x:=fun{s x} e=>by
  rw[List.getElem?_append_left (List.getElem?_eq_some_iff.1 e).1];exact e
 refine⟨?_,old h.head,fun j hj=>?_,fun s b hs e c hcb=>?_,fun s c hs e=>?_⟩
 ·rw[List.nodup_append];refine⟨h.nodup,List.Nodup.sublist List.filter_sublist List.nodup_range,fun x hx y hy exy=>?_⟩;subst exy;obtain⟨_,px⟩:=kid x hy;obtain⟨s,hs,es⟩:=List.getElem_of_mem hx;by_cases s0:s=0
  ·subst s0;have:x=u:=(by have:=h.head;rw[List.getElem?_eq_getElem hs,es]at this;simpa using this);subst this;exact hc ma (by simp only[Bq,px,Option.bind_some];exact hma)
  ·obtain⟨r,b,hrt,hb,pb⟩:=h.origin s x (by omega) (by rw[List.getElem?_eq_getElem hs,es]);rw[px]at pb;have eab:a=b:=(by simpa using pb);subst eab;have hrl:=(List.getElem?_eq_some_iff.1 hb).1;have e1:=(List.getElem?_eq_some_iff.1 hb).2;have e2:=(List.getElem?_eq_some_iff.1 ht).2;have:=(List.getElem_inj (h₀:=hrl) (h₁:=hta) h.nodup).1 (e1.trans e2.symm);omega
 ·rcases List.mem_append.1 hj with hj|hj
  ·exact h.mem j hj
  ·obtain⟨h1,h2⟩:=kid j hj;exact⟨h1,ma+1,by simp only[Bq,h2,Option.bind_some];exact hma⟩
 ·by_cases est:s=t
  ·subst est;rw[old ht]at e;have:a=b:=(by simpa using e);subst this;exact List.mem_append_right _ hcb
  ·have hsl:s<Q.length:=(by omega);rw[List.getElem?_append_left hsl]at e;exact List.mem_append_left _ (h.closed s b (by omega) e c hcb)
 ·by_cases hsl:s<Q.length
  ·rw[List.getElem?_append_left hsl]at e;obtain⟨r,b,h1,h2,h3⟩:=h.origin s c hs e;exact⟨r,b,by omega,old h2,h3⟩
  ·rw[List.getElem?_append_right (by omega)]at e;exact⟨t,a,by omega,old ht,(kid c (List.mem_of_getElem? e)).2⟩
theorem UP.len{t:Nat}{Q:List Nat}(h:UP ids ups n u t Q):Q.length<=n:=GN h.nodup (fun x hx=>(h.mem x hx).1)
theorem UP.all(hr:Du ids n)(h0:∀j,j<n->ids j≠ups 0){Q:List Nat}(h:UP ids ups n u Q.length Q)(j:Nat):j∈Q↔j<n/\∃m,Bq ids ups n m j=some u:=by
 refine⟨h.mem j,?_⟩;rintro⟨hj,m,e⟩;induction m generalizing j with
 |zero=>
  simp only[Bq,Option.some.injEq]at e;subst e;exact List.mem_of_getElem? h.head
 |succ m ih=>
  simp only[Bq]at e;cases ep:Jw ids ups n j with
  |none=>simp[ep]at e
  |some p=>
   simp only[ep,Option.bind_some]at e;have hp:=ih p (Ny ep) e;obtain⟨s,hs,es⟩:=List.getElem_of_mem hp;exact h.closed s p hs (by rw[List.getElem?_eq_getElem hs,es]) j ((FV hr h0 (Ny ep)).2 ⟨hj,ep⟩)
theorem Zq(hr:Du ids n)(h0:∀j,j<n->ids j≠ups 0)(hu:u<n)(hc:Hh ids ups n u){Q:List Nat}(h:UP ids ups n u Q.length Q):Ee (Q.map ids)=Ct ((FG ids ups n n u).map ids):=by
 have inj:∀{l:List Nat},l.Nodup->(∀x∈l,x<n)->(l.map ids).Nodup:=fun{l} hl hx=>by
  rw[List.Nodup,List.pairwise_map];refine List.Pairwise.imp_of_mem ?_ hl;intro a b ha hb hab e;exact hab (hr.inj (hx a ha) (hx b hb) e)
 refine Om (SC _) (UJ (inj (Is hr h0 hu hc) (fun x hx=>((Ev hr h0 hu).1 hx).1))) fun x=>?_;rw[Ug,LG,List.mem_map,List.mem_map];constructor
 ·rintro⟨j,hj,rfl⟩;obtain⟨h1,m,h2⟩:=h.mem j hj;exact⟨j,(Ev hr h0 hu).2 ⟨h1,m,Nz hc h1 h2,h2⟩,rfl⟩
 ·rintro⟨j,hj,rfl⟩;obtain⟨h1,m,_,h2⟩:=(Ev hr h0 hu).1 hj;exact⟨j,(h.all hr h0 j).2 ⟨h1,m,h2⟩,rfl⟩
end
open Go.BigFrame
theorem Ue{ops:Array Oper}{o:Oper}{a:Act}{w:World}{K:Act->World->Prop}{Q:Exit->Act->World->Prop}{E:Prop}(hgd:o.guard=none)(f:Nat)(x y:Operand)(ats:Array TypeId)
 (ho:o.op= .call {callee:= .value (.func f),args:=#[x,y],argTypes:=ats})(eg:∀args w,(callFunc f args).run prog w= .ok (.enter f args) w)(v0 v1:Value)(hv:a.eval x=v0)(hv1:a.eval y=v1)
 (R:Value->World->Prop)(hc:Calls prog f #[v0,v1] w fun e w'=>∃v,e= .returned v/\R v w')(h:∀v w',R v w'->K (a.put o.dst v) w'):
 if Region.wanted o (yielded ops a.tmps)=true then Oper.wp prog o a w K Q else E:=by
 have hw:Region.wanted o (yielded ops a.tmps)=true:=by simp[Region.wanted,hgd]
 rw[if_pos hw];have e:(execOp a.eval o).run prog w= .ok (.enter f #[v0,v1]) w:=by
  unfold execOp;simp only[ho,resolve,invoke,Sem.run_bind,List.map_toArray,List.map_cons,List.map_nil,hv,hv1];simp[go_sem,eg,Act.eval]
 unfold Oper.wp;rw[e,Oper.upon_enter];exact hc.mono fun e w' ⟨v,he,hr⟩=>by subst he;exact h v w' hr
theorem BJ.setMade{w:World}{B g ca:Nat}{vo:Value}{lt:List Ae}{lo:List Ab}(h:BJ w B (.slice g lt.length ca) vo lt lo){t:Nat}{m:Int}(ht:t<lt.length){X:Ae}(hX:X=lt[t]):
 BJ (w.setCell ⟨g,t*7+6,none⟩ (.int .i64 m)) B (.slice g lt.length ca) vo (lt.set t ⟨X.id,X.b1,X.c1,X.b2,X.c2,X.own,m⟩) lo/\(∃cur,Ag w g (.cells cur 39))/\B<=g:=by
 have hn:=h.tn _ (List.getElem_mem ht);have hc:=h.tc _ (List.getElem_mem ht);rw[<-hX]at hn hc;obtain⟨k1,hcur,hg⟩:=h.setT (x:=⟨X.id,X.b1,X.c1,X.b2,X.c2,X.own,m⟩) (u:= .int .i64 m) ht (i:=6) (by omega) (by rw[<-hX];rfl) hn hc;have el:(lt.set t (⟨X.id,X.b1,X.c1,X.b2,X.c2,X.own,m⟩:Ae)).length=lt.length:=by simp
 rw[el]at k1;exact⟨k1,hcur,hg⟩
def Aq(X:Ae):Int:=1000*X.id+X.made+1
theorem Tl(lt:List Ae)(lo:List Ab)(g ca:Nat)(oa:Option Addr)(co B:Nat)(w:World)(st:BJ w B (.slice g lt.length ca) (.slice oa lo.length co) lt lo)(hB:B<=w.heap.size)(t:Nat)(ht:t<lt.length)(X:Ae)(hX:X=lt[t])(xs:X.small)(s:Al)(hk:s.kind=1)(hi:1<=X.id/\X.id<=9)(hm:0<=X.made/\X.made<=30)(ho:X.own.n<=10):
 Calls prog 59 #[.agg #[.slice g lt.length ca,.slice oa lo.length co],.int .i64 t,.agg s] w fun e w'=>∃(x:Ae) (c:Int) (tx:ByteArray),e= .returned (.tuple #[.agg #[.slice g lt.length ca,.slice oa lo.length co],.int .i64 c,.string tx])/\BJ w' B (.slice g lt.length ca) (.slice oa lo.length co) (lt.set t x) lo/\Below B w w'/\((c=5/\(X.made=30∨X.own.n=10)/\x=X/\tx=⟨#[]⟩)∨(c=0/\¬(X.made=30∨X.own.n=10)/\tx=⟨(Db (Aq X).toNat).toArray⟩/\∃(a:Option Addr) (cc:Nat),x=⟨X.id,X.b1,X.c1,X.b2,X.c2,⟨a,(DT ((List.range X.own.n).map X.own.h) (Aq X)).length,cc,AV (DT ((List.range X.own.n).map X.own.h) (Aq X))⟩,X.made+1⟩)):=by
 obtain⟨th,kd,id_,to_,cat,dat,sb1,sc1,sb2,sc2⟩:=s;simp only at hk ⊢;subst hk;have XN:Hid (X.new B w/\(X.own.n<=X.own.k/\X.own.k<=maxLen)):=hid (by rw[hX];exact⟨st.tn _ (List.getElem_mem ht),st.tc _ (List.getElem_mem ht)⟩);have XA:Hid (X.at w):=hid XN.out.1.at;have on1:X.own.n<=1048576:=xs.2.2;obtain⟨CW,gl⟩:=st.jJ ht;rw[<-hX]at CW;have n10:No (.cells #[.slice g lt.length ca,.slice oa lo.length co] 27):=⟨⟩;have n11:No (.cells #[th,.int .i64 1,id_,to_,cat,.string dat,sb1,sc1,sb2,sc2] 32):=⟨⟩;have n7:Nw ((w.alloc n10).alloc n11):=⟨⟩;have n9:No (.cells #[.slice none 0 0,.slice none 0 0] 27):=⟨⟩;have b3:Below w w ((n7:World).alloc n9):=((Bf w _).alloc (by simp) _).alloc (by simp;omega) _;have CC:=CW.below gl b3;have q0:((n7:World).alloc n9).cell? ⟨g,t*7,none⟩=some (.int .i64 X.id):=CC.c0;have q1:((n7:World).alloc n9).cell? ⟨g,t*7+1,none⟩=some (.int .i64 X.b1):=CC.c1;have q2:((n7:World).alloc n9).cell? ⟨g,t*7+2,none⟩=some (.slice X.c1.a X.c1.n X.c1.k):=CC.c2;have q3:((n7:World).alloc n9).cell? ⟨g,t*7+3,none⟩=some (.int .i64 X.b2):=CC.c3;have q4:((n7:World).alloc n9).cell? ⟨g,t*7+4,none⟩=some (.slice X.c2.a X.c2.n X.c2.k):=CC.c4;have q5:((n7:World).alloc n9).cell? ⟨g,t*7+5,none⟩=some (.slice X.own.a X.own.n X.own.k):=CC.c5;have q6:((n7:World).alloc n9).cell? ⟨g,t*7+6,none⟩=some (.int .i64 X.made):=CC.c6;have n8:No (.cells X 39):=⟨⟩;have b0:Below w w (((n7:World).alloc n9).alloc n8):=(((Bf w _).alloc (by simp) _).alloc (by simp;omega) _).alloc (by simp;omega) _;have A0:Ag (((n7:World).alloc n9).alloc n8) w n10:=(((Ag.new w _).alloc _).alloc _).alloc _;have P0:Ag (((n7:World).alloc n9).alloc n8) (w.heap.size+1) n11:=by have:=((Ag.new (w.alloc n10) n11).alloc n9).alloc n8;simpa using this
 have R0:Ag (((n7:World).alloc n9).alloc n8) (w.heap.size+1+1) n9:=by have:=(Ag.new n7 n9).alloc n8;simpa using this
 have X0:Ag (((n7:World).alloc n9).alloc n8) (w.heap.size+1+1+1) n8:=by have:=Ag.new ((n7:World).alloc n9) n8;simpa using this
 have HS:=hid (st.below b0);have HB:=hid b0;have ST:=hid st;have HA:=hid A0;have HP:=hid P0;have HR:=hid R0;have HX:=hid X0;have EX:=hid hX;have i0:(0:Int)<=(t:Int):=by omega
 have i1:(t:Int)<(lt.length:Int):=by omega
 have w1_:IntKind.i64.wrap (1000*X.id)=1000*X.id:=by rw[IntKind.wrap_i64];omega
 have w2_:IntKind.i64.wrap (1000*X.id+X.made)=1000*X.id+X.made:=by rw[IntKind.wrap_i64];omega
 have w3_:IntKind.i64.wrap (1000*X.id+X.made+1)=1000*X.id+X.made+1:=by rw[IntKind.wrap_i64];omega
 have w4_:IntKind.i64.wrap (X.made+1)=X.made+1:=by rw[IntKind.wrap_i64];omega
 obtain⟨x0,x1⟩:=HA.out.two;obtain⟨s0,s1,s2,s3,s4,s5,s6,s7,s8,s9⟩:=HP.out.jE;obtain⟨y0,y1,y2,y3,y4,y5,y6⟩:=HX.out.seven;obtain⟨r0,r1⟩:=HR.out.two;have rf:=HR.out.jC;clear CC CW b3 b0 A0 P0 R0 X0 hX st;by_cases hf:X.made=30∨X.own.n=10
 ·have HF:=hid hf;have NB:Hid (Below w w (((n7:World).alloc n10).alloc n8)):=hid ((((Bf w _).alloc (by simp) _).alloc (by simp;omega) _).alloc (by simp;omega) _);have NOF:Hid (BJ (((n7:World).alloc n10).alloc n8) B (.slice g lt.length ca) (.slice oa lo.length co) (lt.set t X) lo):=hid (by
   have e:=Fl ht;rw[<-EX.out]at e;rw[e];exact ST.out.below NB)
  have NR:Hid (Ag (((n7:World).alloc n10).alloc n8) (w.heap.size+1+1) n10):=hid (by have:=(Ag.new n7 n10).alloc n8;simpa using this);by_cases h3:X.made=30
  ·have h3':(X.made==30)=true:=(by simpa using h3);have h3'':decide (X.made=30)=true:=decide_eq_true h3;clear hf h3;go_enter func59,ntmps59
   go_wp2;exact bodyPost_ret (Ak _ _ (w.heap.size+1+1) 6 _ _ _ _ Tryz.results59 NR rfl rfl rfl) rfl ⟨X,5,_,rfl,NOF,NB.out.mono hB,.inl ⟨rfl,HF,rfl,rfl⟩⟩
  ·have h4:X.own.n=10:=hf.resolve_left h3;have h3':(X.made==30)=false:=(by simpa using h3);have h3'':decide (X.made=30)=false:=decide_eq_false h3;have h4':(X.own.n:Int)=10:=(by omega);have H4:=hid h4;clear hf h3 h4;go_enter func59,ntmps59
   go_wp2;exact bodyPost_ret (Ak _ _ (w.heap.size+1+1) 6 _ _ _ _ Tryz.results59 NR rfl rfl rfl) rfl ⟨X,5,_,rfl,NOF,NB.out.mono hB,.inl ⟨rfl,HF,rfl,rfl⟩⟩
 ·have h3:¬X.made=30:=fun h=>hf (.inl h);have h4:¬X.own.n=10:=fun h=>hf (.inr h);have h3':(X.made==30)=false:=by simpa using h3
  have h3'':decide (X.made=30)=false:=decide_eq_false h3;have h4':¬(X.own.n:Int)=10:=by omega
  have HF:=hid hf;have KB:=hid HS.out;have CC:=(KB.out.jJ ht).1;have c0:=CC.c0;have c1:=CC.c1;have c2:=CC.c2;have c3:=CC.c3;have c4:=CC.c4;have c5:=CC.c5;have c6:=CC.c6;have GF:=hid (KB.out.setMade (m:=X.made+1) ht EX);have gf:=GF.out.2.1.choose_spec.jC;have ng1:¬g=w.heap.size:=by omega
  have ng2:¬g=w.heap.size+1:=by omega
  have ng3:¬g=w.heap.size+1+1:=by omega
  have ng4:¬g=w.heap.size+1+1+1:=by omega
  clear hf CC h3 h4;go_enter func59,ntmps59
  go_wp2_with fail
  have A7:=hid (HA.out.other (Q:=g) ng1 (i:=t*7+6) (.int .i64 (X.made+1)));have P7:=hid (HP.out.other (Q:=g) ng2 (i:=t*7+6) (.int .i64 (X.made+1)));have R7:=hid (HR.out.other (Q:=g) ng3 (i:=t*7+6) (.int .i64 (X.made+1)));have X7:=hid (HX.out.other (Q:=g) ng4 (i:=t*7+6) (.int .i64 (X.made+1)));have n12:No (.cells X 39):=⟨⟩;have L7:Hid (Below B w ((((n7:World).alloc n9).alloc n12).setCell ⟨g,t*7+6,none⟩ (.int .i64 (X.made+1)))):=hid ((HB.out.mono hB).setCell (by dsimp only;exact GF.out.2.2) _);have S7:Hid (w.heap.size<=((((n7:World).alloc n9).alloc n12).setCell ⟨g,t*7+6,none⟩ (.int .i64 (X.made+1))).heap.size):=hid (by rw[nblk_setCell];exact HB.out.size);have XI:Hid (X.own.at ((((n7:World).alloc n9).alloc n12).setCell ⟨g,t*7+6,none⟩ (.int .i64 (X.made+1)))):=hid (((XN.out.1.keeps (Da.of_below HB).l).keeps (Au (i:=t*7+6) GF.out.2.1.choose_spec (by decide) (.int .i64 (X.made+1)))).at.2.2);have K7:=hid GF.out.1;have gB:=GF.out.2.2;clear gf GF KB HA HP HR HX HS c0 c1 c2 c3 c4 c5 c6 x0 x1 s0 s1 s2 s3 s4 s5 s6 s7 s8 s9 r0 r1 rf y0 y1 y2 y3 y4 y5 y6 q0 q1 q2 q3 q4 q5 q6 HB;generalize (((n7:World).alloc n9).alloc n12).setCell ⟨g,t*7+6,none⟩ (.int .i64 (X.made+1))=W7 at *;obtain⟨LS,eLS⟩:∃l,l=lt.set t (⟨X.id,X.b1,X.c1,X.b2,X.c2,X.own,X.made+1⟩:Ae):=⟨_,rfl⟩;rw[<-eLS]at K7;have el1:LS.length=lt.length:=by rw[eLS];simp
  have ht':t<LS.length:=by rw[el1];exact ht
  have EL:Hid ((⟨X.id,X.b1,X.c1,X.b2,X.c2,X.own,X.made+1⟩:Ae)=LS[t]/\∀y,LS.set t y=lt.set t y):=hid ⟨by simp only[eLS,List.getElem_set_self],fun y=>by rw[eLS,List.set_set]⟩;rw[<-el1]at K7;clear eLS;have BX:Hid (∀W,Below W7 W7 W->Ag W w (.cells #[.slice g lt.length ca,.slice oa lo.length co] 27)/\Ag W (w.heap.size+1) n11/\Ag W (w.heap.size+1+1) n9/\Ag W (w.heap.size+1+1+1) (.cells X 39)/\BJ W B (.slice g LS.length ca) (.slice oa lo.length co) LS lo):=hid (fun W hW=>⟨A7.out.below hW,P7.out.below hW,R7.out.below hW,X7.out.below hW,K7.out.below hW⟩);have LB:Hid (∀W,Below W7 W7 W->Below B w W):=hid (fun W hW=>L7.out.trans (hW.mono (Nat.le_trans hB S7)));have V0:=hid (Below.refl W7 W7);have D0:=hid (AF V0);have IA:Hid (∀W,Below W7 W7 W->X.own.at W):=hid (fun W hW=>XI.out.below hW);have EG:Hid (∀args w,(callFunc 101 args).run prog w= .ok (.enter 101 args) w):=hid (enters_of func101 (by kernel_rfl) rfl);obtain⟨N,eN⟩:∃l,l=DT ((List.range X.own.n).map X.own.h) (Aq X):=⟨_,rfl⟩;have PL:Hid (N.length<=1048576):=hid (by
   have h1:=Ku ((List.range X.own.n).map X.own.h) (Aq X);have h2:((List.range X.own.n).map X.own.h).length=X.own.n:=(by simp);rw[eN];omega)
  have CP:Hid (Calls prog 101 #[X.own,.int .i64 (1000*X.id+X.made+1)] W7.drew fun e w'=>∃v,e= .returned v/\(∃va vc,v= .slice va N.length vc/\Ay w' W7.drew.heap.size (.slice va N.length vc) N/\Below W7.drew.heap.size W7.drew w')):=hid ((Qe X.own (1000*X.id+X.made+1) W7.drew (IA _ D0) on1 XN.out.2).mono fun _ _ ⟨va,vc,e1,h1,h2⟩=>⟨_,e1,va,vc,by rw[eN];rfl,by rw[eN];exact h1,h2⟩);have EN:=hid eN;clear eN;clear A7 P7 R7 X7 XI L7;obtain⟨x0,x1⟩:=(BX _ D0).1.two;obtain⟨s0,s1,s2,s3,s4,s5,s6,s7,s8,s9⟩:=(BX _ D0).2.1.jE;obtain⟨y0,y1,y2,y3,y4,y5,y6⟩:=(BX _ D0).2.2.2.1.seven;go_region_law(first
   |(refine Ue (by rfl) 101 _ _ _ (by rfl) EG _ _ (by rfl) (by rfl) _ CP ?_;rintro v w8 ⟨va,vc,rfl,o8,b8⟩;have V8:=hid (Af D0 b8);have O8:=hid o8;obtain⟨m0,m1⟩:=(BX _ V8).1.two;obtain⟨n0,n1,n2,n3,n4,n5,n6⟩:=(BX _ V8).2.2.2.1.seven;have KB:=hid (BX.out _ V8).2.2.2.2;have CC:=(KB.out.jJ ht').1;rw[<-EL.out.1]at CC;have ND:Hid (AJ.new B w8 ⟨va,N.length,vc,AV N⟩):=hid ((O8.out.newL PL).low (Nat.le_trans hB (Nat.le_trans S7 D0.out.size)));have CQ:=hid (CZ O8);have c5:=CC.c5;have GF:=hid (KB.out.setOwn (d:=⟨va,N.length,vc,AV N⟩) ht' EL.out.1 ND CQ);have gf:=GF.out.2.1.choose_spec.jC;clear o8 b8 CC))
  all_goals(
   have ng1':g≠w.heap.size:=ng1;have A8:=hid ((BX _ V8).1.other (Q:=g) ng1 (i:=t*7+5) (.slice va N.length vc));have R8:=hid ((BX _ V8).2.2.1.other (Q:=g) ng3 (i:=t*7+5) (.slice va N.length vc));have L8:Hid (Below B w (w8.setCell ⟨g,t*7+5,none⟩ (.slice va N.length vc))):=hid ((LB _ V8).setCell (by dsimp only;exact gB) _);have S8:Hid (w.heap.size<=(w8.setCell ⟨g,t*7+5,none⟩ (.slice va N.length vc)).heap.size):=hid (by rw[nblk_setCell];exact Nat.le_trans S7 V8.out.size);have K8:=hid GF.out.1;clear GF gf c5 KB ND CQ m0 m1 n0 n1 n2 n3 n4 n5 n6 x0 x1 s0 s1 s2 s3 s4 s5 s6 s7 s8 s9 y0 y1 y2 y3 y4 y5 y6;generalize w8.setCell ⟨g,t*7+5,none⟩ (.slice va N.length vc)=W8 at *;have D8:=hid (AF (Below.refl W8 W8));have BY:Hid (∀W,Below W8 W8 W->Ag W w (.cells #[.slice g lt.length ca,.slice oa lo.length co] 27)/\Ag W (w.heap.size+1+1) n9):=hid (fun W hW=>⟨A8.out.below hW,R8.out.below hW⟩);obtain⟨x0,x1⟩:=(BY _ D8).1.two;obtain⟨r0,r1⟩:=(BY _ D8).2.two;have rf:=(BY _ D8).2.jC;have EG9:Hid (∀args w,(callFunc 102 args).run prog w= .ok (.enter 102 args) w):=hid (enters_of func102 (by kernel_rfl) rfl);have CP9:Hid (Calls prog 102 #[.int .i64 (1000*X.id+X.made+1)] W8.drew fun e w'=>∃v,e= .returned v/\(v= .string ⟨(Db (Aq X).toNat).toArray⟩/\Below W8.drew.heap.size W8.drew w')):=hid (by
    have e:(((Aq X).toNat:Nat):Int)=1000*X.id+X.made+1:=(by unfold Aq;omega);rw[<-e];exact(Lf _ _ (by unfold Aq;omega)).mono fun _ _ ⟨e1,h1⟩=>⟨_,e1,rfl,h1⟩)
   go_wp2_with fail
   go_region_law(first
    |(refine Dk (by rfl) 102 _ _ (by rfl) EG9 _ (by rfl) _ CP9 ?_;rintro v w9 ⟨rfl,b9⟩;have V9:=hid (Af D8 b9);obtain⟨m0,m1⟩:=(BY _ V9).1.two;obtain⟨z0,z1⟩:=(BY _ V9).2.two;have zf:=(BY _ V9).2.jC;clear b9))
   all_goals(
    go_wp2;refine bodyPost_ret (Ak _ _ (w.heap.size+1+1) 6 _ _ _ _ Tryz.results59 (((BY _ V9).2.jB (i:=0) _).jB (i:=1) _) rfl rfl rfl) rfl ⟨_,0,_,rfl,?_,?_,.inr ⟨rfl,HF,rfl,va,vc,by rw[<-EN.out]⟩⟩
    ·have k9:=((K8.out.below V9).set (BY _ V9).2 (.inl rfl) (i:=0) (.slice g lt.length ca)).set ((BY _ V9).2.jB (i:=0) _) (.inl rfl) (i:=1) (.slice oa lo.length co);rw[EL.out.2,el1]at k9;exact k9
    ·exact(((L8.out.trans (V9.out.mono (Nat.le_trans hB S8))).setCell (by dsimp only;omega) _).setCell (by dsimp only;omega) _)))
end Go.Proofs.YteoihknaljgocaaGreatDoor
