import Derived.Test.YtbacmamplkdgaaaGreatDoorProg
import Derived.Shelf.SlIterI.Nil
import Derived.Shelf.SortM.Plain
import Derived.Shelf.SortM.SortNone
import Derived.Ground.GgzProg
import Derived.Ground.SlgmProg
import Derived.Ground.SlmcProg
import Derived.Ground.SlmpProg
import Derived.Shelf.SlMaps.Clone
import Derived.Shelf.SlMaps.Copy
import Derived.Test.YtbacmamplkdgaaaGreatDoorZ5b
import Derived.Sort.OwnSortedInts
import Derived.Test.YtbacmamplkdgaaaGreatDoorZ2b
import Derived.Test.YtbacmamplkdgaaaGreatDoorKB10b
import Derived.Test.YtbacmamplkdgaaaGreatDoorZ3b
import Derived.Test.YtbacmamplkdgaaaGreatDoorZ11b
set_option maxRecDepth 100000
set_option maxHeartbeats 4000000
namespace Go.Proofs.YtbacmamplkdgaaaGreatDoor
open Go.Shelf
def Tryz.keysA_ren:Go.Shelf.Ren:=⟨fun|7=>87|10=>113|n=>n,fun|23=>89|26=>2|3=>2|28=>138|0=>0|27=>137|33=>133|4=>4|n=>n,fun|n=>n⟩
theorem Tryz.keysA:Go.Proofs.SlLaysZI.n7 Tryz.prog Tryz.keysA_ren:={
 mixed:=by kernel_rfl
 f7:=⟨Tryz.f87.name,by decide,Tryz.func87.trans (congrArg some (by kernel_rfl))⟩
 f10:=⟨Tryz.f113.name,by decide,Tryz.func113.trans (congrArg some (by kernel_rfl))⟩
 t0:=Tryz.underlying0
 a0:=Tryz.isAgg0
 z0:=Tryz.sizeOf0
 v0:=Tryz.zeroValue0
 t4:=Tryz.underlying4
 a4:=Tryz.isAgg4
 z4:=Tryz.sizeOf4
 v4:=Tryz.zeroValue4
 t23:=Tryz.underlying89
 a23:=Tryz.isAgg89
 z23:=Tryz.sizeOf89
 v23:=Tryz.zeroValue89
 t26:=Tryz.underlying2
 a26:=Tryz.isAgg2
 z26:=Tryz.sizeOf2
 v26:=Tryz.zeroValue2
 t27:=Tryz.underlying137
 a27:=Tryz.isAgg137
 z27:=Tryz.sizeOf137
 v27:=Tryz.zeroValue137
 t28:=Tryz.underlying138
 a28:=Tryz.isAgg138
 z28:=Tryz.sizeOf138
 v28:=Tryz.zeroValue138
 t33:=Tryz.underlying133
 a33:=Tryz.isAgg133
 z33:=Tryz.sizeOf133
 v33:=Tryz.zeroValue133}
def Tryz.sortedA_ren:Go.Shelf.Ren:=⟨fun|6=>86|8=>111|9=>112|11=>132|13=>134|12=>133|23=>162|24=>163|14=>153|15=>154|16=>155|17=>156|18=>157|19=>158|20=>159|21=>160|22=>161|25=>182|26=>183|27=>184|28=>185|29=>186|30=>187|31=>191|n=>n,fun|26=>2|28=>138|24=>34|0=>0|3=>3|37=>168|48=>196|50=>166|4=>4|40=>188|39=>187|45=>193|5=>5|9=>9|51=>208|55=>211|57=>214|58=>215|33=>133|n=>n,fun|n=>n⟩
theorem Tryz.sortedA:Go.Proofs.SlLaysZI.n6 Tryz.prog Tryz.sortedA_ren:={
 mixed:=by kernel_rfl
 f6:=⟨Tryz.f86.name,by decide,Tryz.func86.trans (congrArg some (by kernel_rfl))⟩
 f8:=⟨Tryz.f111.name,by decide,Tryz.func111.trans (congrArg some (by kernel_rfl))⟩
 f11:=⟨Tryz.f132.name,by decide,Tryz.func132.trans (congrArg some (by kernel_rfl))⟩
 t0:=Tryz.underlying0
 a0:=Tryz.isAgg0
 z0:=Tryz.sizeOf0
 v0:=Tryz.zeroValue0
 t24:=Tryz.underlying34
 a24:=Tryz.isAgg34
 z24:=Tryz.sizeOf34
 v24:=Tryz.zeroValue34
 t26:=Tryz.underlying2
 a26:=Tryz.isAgg2
 z26:=Tryz.sizeOf2
 v26:=Tryz.zeroValue2
 t28:=Tryz.underlying138
 a28:=Tryz.isAgg138
 z28:=Tryz.sizeOf138
 v28:=Tryz.zeroValue138
 i26:=by kernel_rfl}
def Tryz.sortA_ren:Go.Shelf.Ren:=⟨fun|5=>112|8=>134|7=>133|19=>162|20=>163|10=>153|11=>154|12=>155|13=>156|14=>157|15=>158|16=>159|17=>160|18=>161|30=>182|31=>183|32=>184|33=>185|34=>186|35=>187|40=>191|n=>n,fun|23=>34|25=>2|3=>3|32=>168|22=>34|0=>0|44=>196|46=>166|4=>4|36=>188|35=>187|41=>193|5=>5|9=>9|53=>208|57=>211|63=>214|64=>215|n=>n,fun|n=>n⟩
theorem Tryz.sortA:Go.Proofs.SlLaysM.n5 Tryz.prog Tryz.sortA_ren:={
 mixed:=by kernel_rfl
 f5:=⟨Tryz.f112.name,by decide,Tryz.func112.trans (congrArg some (by kernel_rfl))⟩
 f7:=⟨Tryz.f133.name,by decide,Tryz.func133.trans (congrArg some (by kernel_rfl))⟩
 f8:=Tryz.func134.trans (congrArg some (by kernel_rfl))
 f10:=⟨Tryz.f153.name,by decide,Tryz.func153.trans (congrArg some (by kernel_rfl))⟩
 f11:=⟨Tryz.f154.name,by decide,Tryz.func154.trans (congrArg some (by kernel_rfl))⟩
 f12:=⟨Tryz.f155.name,by decide,Tryz.func155.trans (congrArg some (by kernel_rfl))⟩
 f13:=⟨Tryz.f156.name,by decide,Tryz.func156.trans (congrArg some (by kernel_rfl))⟩
 f14:=⟨Tryz.f157.name,by decide,Tryz.func157.trans (congrArg some (by kernel_rfl))⟩
 f15:=⟨Tryz.f158.name,by decide,Tryz.func158.trans (congrArg some (by kernel_rfl))⟩
 f16:=⟨Tryz.f159.name,by decide,Tryz.func159.trans (congrArg some (by kernel_rfl))⟩
 f17:=⟨Tryz.f160.name,by decide,Tryz.func160.trans (congrArg some (by kernel_rfl))⟩
 f18:=⟨Tryz.f161.name,by decide,Tryz.func161.trans (congrArg some (by kernel_rfl))⟩
 f19:=Tryz.func162.trans (congrArg some (by kernel_rfl))
 f20:=Tryz.func163.trans (congrArg some (by kernel_rfl))
 f30:=⟨Tryz.f182.name,by decide,Tryz.func182.trans (congrArg some (by kernel_rfl))⟩
 f31:=Tryz.func183.trans (congrArg some (by kernel_rfl))
 f32:=Tryz.func184.trans (congrArg some (by kernel_rfl))
 f33:=⟨Tryz.f185.name,by decide,Tryz.func185.trans (congrArg some (by kernel_rfl))⟩
 f34:=⟨Tryz.f186.name,by decide,Tryz.func186.trans (congrArg some (by kernel_rfl))⟩
 f35:=⟨Tryz.f187.name,by decide,Tryz.func187.trans (congrArg some (by kernel_rfl))⟩
 f40:=⟨Tryz.f191.name,by decide,Tryz.func191.trans (congrArg some (by kernel_rfl))⟩
 t0:=Tryz.underlying0
 a0:=Tryz.isAgg0
 z0:=Tryz.sizeOf0
 v0:=Tryz.zeroValue0
 t3:=Tryz.underlying3
 a3:=Tryz.isAgg3
 z3:=Tryz.sizeOf3
 v3:=Tryz.zeroValue3
 t4:=Tryz.underlying4
 a4:=Tryz.isAgg4
 z4:=Tryz.sizeOf4
 v4:=Tryz.zeroValue4
 t5:=Tryz.underlying5
 a5:=Tryz.isAgg5
 z5:=Tryz.sizeOf5
 v5:=Tryz.zeroValue5
 t9:=Tryz.underlying9
 a9:=Tryz.isAgg9
 z9:=Tryz.sizeOf9
 v9:=Tryz.zeroValue9
 t22:=Tryz.underlying34
 a22:=Tryz.isAgg34
 z22:=Tryz.sizeOf34
 v22:=Tryz.zeroValue34
 t23:=Tryz.underlying34
 a23:=Tryz.isAgg34
 z23:=Tryz.sizeOf34
 v23:=Tryz.zeroValue34
 t25:=Tryz.underlying2
 a25:=Tryz.isAgg2
 z25:=Tryz.sizeOf2
 v25:=Tryz.zeroValue2
 t32:=Tryz.underlying168
 a32:=Tryz.isAgg168
 z32:=Tryz.sizeOf168
 v32:=Tryz.zeroValue168
 t35:=Tryz.underlying187
 a35:=Tryz.isAgg187
 z35:=Tryz.sizeOf187
 v35:=Tryz.zeroValue187
 t36:=Tryz.underlying188
 a36:=Tryz.isAgg188
 z36:=Tryz.sizeOf188
 v36:=Tryz.zeroValue188
 t41:=Tryz.underlying193
 a41:=Tryz.isAgg193
 z41:=Tryz.sizeOf193
 v41:=Tryz.zeroValue193
 t44:=Tryz.underlying196
 a44:=Tryz.isAgg196
 z44:=Tryz.sizeOf196
 v44:=Tryz.zeroValue196
 t46:=Tryz.underlying166
 a46:=Tryz.isAgg166
 z46:=Tryz.sizeOf166
 v46:=Tryz.zeroValue166
 t53:=Tryz.underlying208
 a53:=Tryz.isAgg208
 z53:=Tryz.sizeOf208
 v53:=Tryz.zeroValue208
 t57:=Tryz.underlying211
 a57:=Tryz.isAgg211
 z57:=Tryz.sizeOf211
 v57:=Tryz.zeroValue211
 t63:=Tryz.underlying214
 a63:=Tryz.isAgg214
 z63:=Tryz.sizeOf214
 v63:=Tryz.zeroValue214
 t64:=Tryz.underlying215
 a64:=Tryz.isAgg215
 z64:=Tryz.sizeOf215
 v64:=Tryz.zeroValue215}
def Tryz.cloneA_ren:Go.Shelf.Ren:=⟨fun|5=>84|7=>110|n=>n,fun|23=>89|25=>2|3=>2|4=>4|20=>20|n=>n,fun|n=>n⟩
theorem Tryz.cloneA:Go.Proofs.SlLaysW.n5 Tryz.prog Tryz.cloneA_ren:={
 mixed:=by kernel_rfl
 f5:=⟨Tryz.f84.name,by decide,Tryz.func84.trans (congrArg some (by kernel_rfl))⟩
 f7:=Tryz.func110.trans (congrArg some (by kernel_rfl))
 t4:=Tryz.underlying4
 a4:=Tryz.isAgg4
 z4:=Tryz.sizeOf4
 v4:=Tryz.zeroValue4
 t20:=Tryz.underlying20
 a20:=Tryz.isAgg20
 z20:=Tryz.sizeOf20
 v20:=Tryz.zeroValue20
 t23:=Tryz.underlying89
 a23:=Tryz.isAgg89
 z23:=Tryz.sizeOf89
 v23:=Tryz.zeroValue89}
def Tryz.copyA_ren:Go.Shelf.Ren:=⟨fun|5=>85|n=>n,fun|23=>89|24=>89|26=>2|27=>2|0=>0|4=>4|n=>n,fun|n=>n⟩
theorem Tryz.copyA:Go.Proofs.SlLaysX.n5 Tryz.prog Tryz.copyA_ren:={
 mixed:=by kernel_rfl
 f5:=⟨Tryz.f85.name,by decide,Tryz.func85.trans (congrArg some (by kernel_rfl))⟩
 t0:=Tryz.underlying0
 a0:=Tryz.isAgg0
 z0:=Tryz.sizeOf0
 v0:=Tryz.zeroValue0
 t4:=Tryz.underlying4
 a4:=Tryz.isAgg4
 z4:=Tryz.sizeOf4
 v4:=Tryz.zeroValue4
 t23:=Tryz.underlying89
 a23:=Tryz.isAgg89
 z23:=Tryz.sizeOf89
 v23:=Tryz.zeroValue89
 t24:=Tryz.underlying89
 a24:=Tryz.isAgg89
 z24:=Tryz.sizeOf89
 v24:=Tryz.zeroValue89
 a26:=Tryz.isAgg2
 z26:=Tryz.sizeOf2
 a27:=Tryz.isAgg2
 z27:=Tryz.sizeOf2}
open Go Go.RowKit Go.Deep Go.Maps Go.Sort
def sortL(l:List Int):List Int:=l.mergeSort (fun x y=>decide (x≤y))
theorem sortL_len(l:List Int):(sortL l).length=l.length:=by simp[sortL]
theorem sort_own(B:Nat)(v:Value)(l:List Int)(w:World)(h:OwnI w B v l)(hl:l.length≤100000):
 Calls Tryz.prog 112 #[v] w fun e w'=>e= .returned (.tuple #[])∧OwnI w' B v (sortL l)∧w.grownBy w' v.ownBlock:=by
 rcases h.2 with⟨rfl,hn⟩|⟨g,cap,cur,rfl,hB,hb,h1,h2,h3,h4⟩
 ·have e0:l=[]:=List.eq_nil_of_length_eq_zero hn;subst e0;refine(AnyM.slices_Sort_int_none Tryz.sortA none 0 w).mono ?_;rintro e w' ⟨rfl,rfl⟩;have e0:sortL []=[]:=by simp[sortL]
  rw[e0];exact⟨rfl,h,⟨rfl,rfl,rfl,Nat.le_refl _,fun _ _ _=>rfl⟩⟩
 ·have hlt:g<w.heap.size:=(Array.getElem?_eq_some_iff.1 hb).1;refine(AnyM.slices_Sort_int Tryz.sortA g 0 cap l w (holds_of_blockI hb (by simpa using h4)) hlt (by omega)).mono ?_;rintro e w' ⟨rfl,n,os,rfl⟩;refine⟨rfl,?_,grownBy_sortedI _⟩;have:=ownsRow_sortedI (n:=n) (os:=os) (ts:=sortL l) (sortL_len l) hB hb h1 h2 h3;unfold OwnI;rw[sortL_len];exact this
theorem Walk.sorted{w0 w w':World}{c:Nat}{v:Value}{l l':List Int}(h:Walk w0 c w v l)(ho:OwnI w' (w0.heap.size+1+1+1) v l')(hg:w.grownBy w' v.ownBlock):Walk w0 c w' v l':=by
 have hne:∀k,k<w0.heap.size+1+1+1→some k≠v.ownBlock:=fun k hk e=>by have:=(World.ownsRow.lt h.o k e.symm).1;omega
 exact⟨h.b.trans (below_grown hg h.b.size (fun j hj=>by have:=(World.ownsRow.lt h.o j hj).1;omega)),h.q.grown hg (hne _ (by omega)),h.p.grown hg (hne _ (by omega)),h.r.grown hg (hne _ (by omega)),ho⟩
theorem OwnI.low{w:World}{B B':Nat}{v:Value}{l:List Int}(h:OwnI w B v l)(hB:B'≤B):OwnI w B' v l:=by
 refine⟨h.1,?_⟩;rcases h.2 with hn|⟨g,cap,cur,hv,hb,rest⟩
 ·exact .inl hn
 ·exact .inr ⟨g,cap,cur,hv,by omega,rest⟩
theorem below_any(w:World)(B c n:Nat)(ids ups:Nat→Int)(ob off:Nat)(nb:Nat→Nat)(kv:Nat→Value)(hN:Nodes w B c n ids ob off nb kv (kidsTo ids ups n))(hr:Rises ids n)(h0:∀j,j<n→ids j≠ups 0)
 (hw:∀i,i<n→(Lit.int .i64 (ids i)).wf=true)(hn:n≤271)(i:Nat)(hi:i<n)(hc:NoCyc ids ups n i):
 Calls Tryz.prog 100 #[.map (some c),.int .i64 (ids i)] w fun e w'=>∃v,e= .returned v∧OwnI w' w.heap.size v (sortL ((preI ids ups n n i).map ids))∧Below w.heap.size w w':=by
 have hst:=fun(W:World) (a:Addr) (x y:Array Value) (m:Mode)=>run_store Tryz.prog W a (.func (.func 125) x y) m rfl;have b1:Below w.heap.size w (w.alloc (.cells #[.map (some c)] 59)):=(Below.refl _ w).alloc (Nat.le_refl _) _;have LK:=(hN.map.below b1).look (hw i hi);rw[findI_eq hr hi]at LK;simp only[Option.map_some]at LK;have hlen:(preI ids ups n n i).length≤n:=nodup_len (nodup_pre hr h0 hi hc) (fun x hx=>((mem_pre hr h0 hi).1 hx).1);have W0:Walk w c (((w.alloc (.cells #[.map (some c)] 59)).alloc (.cells #[.slice none 0 0] 34)).alloc (.cells #[walkFn w.heap.size] 165)) (.slice none 0 0) []:=by
  refine⟨?_,?_,?_,?_,OwnI.nil _ _⟩
  ·exact(b1.alloc b1.size _).alloc (b1.alloc b1.size _).size _
  ·exact((Blk.new w _).alloc _).alloc _
  ·have:=(Blk.new (w.alloc (.cells #[.map (some c)] 59)) (.cells #[.slice none 0 0] 34)).alloc (.cells #[walkFn w.heap.size] 165);simpa using this
  ·have:=Blk.new ((w.alloc (.cells #[.map (some c)] 59)).alloc (.cells #[.slice none 0 0] 34)) (.cells #[walkFn w.heap.size] 165);simpa using this
 have C1:=hid (walk_any w B c n ids ups ob off nb kv hN hr h0 hw hn n i [] (.slice none 0 0) _ hi (fun j m hj e=>height hc hj e) (by simp;omega) W0);unfold walkFn at C1;simp only[List.nil_append]at C1;clear W0 hN h0 hw hr;go_enter Tryz.func100,Tryz.ntmps100
 go_wp2_with fail
 refine C1.out.mono ?_;rintro e w2 ⟨v2,rfl,h2⟩;have H2:=hid h2;have x1:_=some v2:=h2.p.c0 0 rfl;have C2:=hid (sort_own _ v2 _ w2 h2.o (by rw[List.length_map];omega));clear h2 C1 LK;go_wp2_with fail
 refine C2.out.mono ?_;rintro e w3 ⟨rfl,o3,g3⟩;have H3:=hid (H2.out.sorted o3 g3);have x3:_=some v2:=H3.out.p.c0 0 rfl;clear o3 g3 x1 C2 H2;go_wp2;go_ret;exact⟨v2,rfl,H3.out.o.low (by omega),H3.out.b⟩
theorem reach_len'{n:Nat}{O:Nat→ObjV}(h:objsOk n O=true):((((sortL ((preI (fun i=>(O i).id) (fun i=>(O i).up) n n 0).map (fun i=>(O i).id))).length:Nat):Int)==(n:Int))=reachB (fun i=>(O i).id) (fun i=>(O i).up) n:=by
 rw[sortL_len,List.length_map];obtain⟨h1,_⟩:=objsOk_out h;have hp:=pre_full (objsOk_rises h) (ups:=fun i=>(O i).up) (fun j hj=>by have:=objsOk_pos h j hj;have:=(objsOk_root h).2.2;omega) (by omega);rw[Bool.eq_iff_iff,←hp];simp only[beq_iff_eq];omega
theorem reach_len{n:Nat}{O:Nat→ObjV}(h:objsOk n O=true):∃L:Nat,(sortL ((preI (fun i=>(O i).id) (fun i=>(O i).up) n n 0).map (fun i=>(O i).id))).length=L∧L≤271∧((L:Int)==(n:Int))=reachB (fun i=>(O i).id) (fun i=>(O i).up) n:=by
 refine⟨_,rfl,?_,reach_len' h⟩;rw[sortL_len,List.length_map];obtain⟨h1,h2,_⟩:=objsOk_out h;have:=nodup_len (nodup_pre (objsOk_rises h) (ups:=fun i=>(O i).up) (fun j hj=>by have:=objsOk_pos h j hj;have:=(objsOk_root h).2.2;omega) (f:=n) (i:=0) (by omega) noCyc_zero) (fun x hx=>((mem_pre (objsOk_rises h) (ups:=fun i=>(O i).up) (fun j hj=>by have:=objsOk_pos h j hj;have:=(objsOk_root h).2.2;omega) (by omega)).1 hx).1);omega
theorem boxesOk_any(a:Option Addr)(n cap:Nat)(O:Nat→ObjV)(w:World)(hcap:n≤cap)(hO:ObjsAt w a n O)(h2:objsOk n O=true)(hw:∀i,i<n→(Lit.int .i64 (O i).id).wf=true∧(Lit.int .i64 (O i).up).wf=true):
 Calls Tryz.prog 62 #[.slice a n cap] w fun e w'=>e= .returned (.bool (upsOk n O&&reachB (fun i=>(O i).id) (fun i=>(O i).up) n))∧Below w.heap.size w w':=by
 obtain⟨on1,on2,_,_⟩:=objsOk_out h2;have HO:=hid hO;obtain⟨ob,off,rfl,_,_⟩:=hO (by omega);have HW:=hid hw;have H2:=hid h2;obtain⟨L,eL,hL,rL⟩:=reach_len h2;have EL:=hid eL;have RL:=hid rL;clear eL rL;clear hO h2 hw;have C1:=hid (nodesOf_any ob off n cap O w on2 HO.out (objsOk_rises H2.out) HW.out);go_enter Tryz.func62,Tryz.ntmps62
 go_wp2_with fail
 refine C1.out.mono ?_;rintro e w1 ⟨c,nb,kv,rfl,hN,b1⟩;have HN:=hid hN;clear hN C1;have END:Hid (∀wr:World,Below w1.heap.size w1 wr→Calls Tryz.prog 100 #[.map (some c),.int .i64 1] wr fun e w'=>∃a2 k2,e= .returned (.slice a2 L k2)∧Below wr.heap.size wr w'):=hid (fun wr hb=>by
  have:=below_any wr w.heap.size c n (fun i=>(O i).id) (fun i=>(O i).up) ob off nb kv (HN.out.below hb) (objsOk_rises H2.out) (fun j hj=>by have:=objsOk_pos H2.out j hj;have:=(objsOk_root H2.out).2.2;omega) (fun i hi=>(HW.out i hi).1) on2 0 (by omega) noCyc_zero;rw[(objsOk_root H2.out).1]at this;refine this.mono ?_;rintro e w' ⟨v,rfl,o,b⟩;obtain⟨a2,k2,rfl⟩:=ownsRow_shape o;rw[EL.out];exact⟨a2,k2,rfl,b⟩)
 have c1:(n:Int)≤(cap:Int):=by omega
 have c2:(1:Int)≤(n:Int):=by omega
 by_cases hok:cap=1
 ·obtain rfl:n=1:=by omega
  subst hok;go_wp2;go_loopw [12] (fun i wr=>i= .int .i64 0∧Below w1.heap.size w1 wr) (fun i _=>0)
  case atStart=>exact⟨rfl,Below.refl _ _⟩
  case round=>
   obtain⟨rfl,hB⟩:=hrel;go_wp2_with fail
   refine(END.out wr hB).mono ?_;rintro e w2 ⟨a2,k2,rfl,b2⟩;go_wp2;go_ret;refine⟨ret_bool ?_,then_ b1 (then_ hB b2)⟩;rw[←RL.out];simp[upsOk]
 ·go_wp2;go_loopw [12] (fun i wr=>∃q:Nat,q≤n-1∧i= .int .i64 q∧Hid (∀p,p<q→boxAt n O (O (p+1)).up=true)∧Below w1.heap.size w1 wr) (fun i _=>n-1-(intOf i).toNat)
  case atStart=>exact⟨0,Nat.zero_le _,rfl,hid (fun p hp=>by omega),Below.refl _ _⟩
  case round=>
   obtain⟨q,hq,rfl,HA,hB⟩:=hrel;by_cases hlt2:q<n-1
   ·obtain⟨_,_,ea,hlt0,hcc⟩:=(HO.out.below b1).below hB (by omega);cases ea;obtain⟨⟨q0,q1,q2,q3,q4,q5,q6,q7,q8,q9⟩,ht⟩:=hcc (q+1) (by omega);have ei:off+(q+1)*10=off+10+q*10:=(by omega);rw[ei]at q0 q1 q2 q3 q4 q5 q6 q7 q8 q9;have i2:(q:Int)<((n-1:Nat):Int):=(by omega);simp only[CatL.val,IntL.val,StrL.val]at q4 q6 q7 q9;have bC:Below wr.heap.size wr (wr.alloc (.cells #[.int .i64 (O (q+1)).id,.int .i64 (O (q+1)).kind,.int .i64 (O (q+1)).up,.int .i64 (O (q+1)).b1,.slice (O (q+1)).c1.a (O (q+1)).c1.n (O (q+1)).c1.k,.string (O (q+1)).data,.slice (O (q+1)).items.a (O (q+1)).items.n (O (q+1)).items.k,.slice (O (q+1)).own.a (O (q+1)).own.n (O (q+1)).own.k,.int .i64 (O (q+1)).b2,.slice (O (q+1)).c2.a (O (q+1)).c2.n (O (q+1)).c2.k] 42)):=(Below.refl _ wr).alloc (Nat.le_refl _) _;have BC:=then_ hB bC;have N1:=hid (HN.out.below BC);have LK:=N1.out.map.look (x:=(O (q+1)).up) (HW.out (q+1) (by omega)).2;cases hf:findI (fun i=>(O i).id) n (O (q+1)).up with
    |none=>
     have BO:Hid (boxAt n O (O (q+1)).up=false):=hid (by simp[boxAt,hf]);rw[hf]at LK;simp only[Option.map_none]at LK;clear hcc ht ei hf;go_wp2;go_ret;exact⟨ret_bool (by rw[upsOk,all_at hlt2 BO.out];rfl),then_ b1 BC⟩
    |some u=>
     obtain⟨hu,_⟩:=findI_some hf;have BO:Hid (boxAt n O (O (q+1)).up=((O u).kind==3)):=hid (by simp[boxAt,hf]);rw[hf]at LK;simp only[Option.map_some]at LK;have k1:=(hcc u hu).1.c1;have k2:=(bC.cell (p:=⟨ob,off+u*10+1,none⟩) hlt0).trans k1;have n1:_=some (Value.pointer (some ⟨ob,off+u*10,none⟩)):=(N1.out.blk u hu).c0 0 rfl;clear hcc ht ei hf k1;cases c3:((O u).kind==3)with
     |false=>
      rw[c3]at BO;have c3':¬(O u).kind=3:=(by simpa using c3);go_wp2;go_ret;exact⟨ret_bool (by rw[upsOk,all_at hlt2 BO.out];rfl),then_ b1 BC⟩
     |true=>
      rw[c3]at BO;have c3':(O u).kind=3:=(by simpa using c3);rw[c3']at k2;clear c3;go_wp2;refine⟨⟨q+1,by omega,by go_num,hid (fun p hp=>?_),BC⟩,by simp[intOf];omega⟩;by_cases e:p=q
      ·subst e;exact BO.out
      ·exact HA.out p (by omega)
   ·have e:q=n-1:=(by omega);subst e;go_wp2_with fail
    refine(END.out wr hB).mono ?_;rintro e w2 ⟨a2,k2,rfl,b2⟩;go_wp2;go_ret;refine⟨ret_bool ?_,then_ b1 (then_ hB b2)⟩;rw[upsOk,all_yes HA.out,Bool.true_and,←RL.out]
theorem implKer_any(k:KerV)(w:World)(hk:k.at w)(hcap:k.on≤k.ok)(hw:∀i,i<k.on→(Lit.int .i64 (k.O i).id).wf=true∧(Lit.int .i64 (k.O i).up).wf=true):
 Calls Tryz.prog 24 #[k.val] w fun e w'=>e= .returned (.bool (kerOk k))∧Below w.heap.size w w':=by
 have hb0:=(Below.refl _ w).alloc (Nat.le_refl _) (.cells #[.slice k.ta k.tn k.tk,.slice k.oa k.on k.ok] 27);have A0:=Blk.new w (.cells #[.slice k.ta k.tn k.tk,.slice k.oa k.on k.ok] 27);have T0:=hid (hk.below hb0);have HW:=hid hw;have HC:=hid hcap;unfold KerV.val;obtain⟨x0,x1⟩:=A0.two;clear hk hw hcap;go_enter Tryz.func24,Tryz.ntmps24
 go_wp2_with fail
 refine(threadsOk_any _ _ _ k.T _ T0.out.1 T0.out.2.2.1).mono ?_;rintro e w1 ⟨rfl,hb1⟩;have A1:=A0.below hb1;have T1:=hid (T0.out.below hb1);have B1:=then_ hb0 hb1;clear x0 x1 A0 T0 hb0 hb1;obtain⟨x0,x1⟩:=A1.two;cases t1:thrsOk k.tn k.T with
 |false=>
  go_wp2;go_ret;exact⟨ret_bool (kerOk_thr t1).symm,B1⟩
 |true=>
 go_wp2_with fail
 refine(objectsOk_any _ _ _ k.O _ T1.out.2.1 T1.out.2.2.2).mono ?_;rintro e w2 ⟨rfl,hb2⟩;have A2:=A1.below hb2;have T2:=hid (T1.out.below hb2);have B2:=then_ B1 hb2;clear x0 x1 A1 T1 B1 hb2;obtain⟨x0,x1⟩:=A2.two;cases t2:objsOk k.on k.O with
 |false=>
  go_wp2;go_ret;exact⟨ret_bool (by simp[kerOk,t2]),B2⟩
 |true=>
 have C3:=hid (numbersOk_any k w2 T2.out HC.out t1 t2 (fun i hi=>(HW.out i hi).1));unfold KerV.val at C3;go_wp2_with fail
 refine C3.out.mono ?_;rintro e w3 ⟨rfl,hb3⟩;have A3:=A2.below hb3;have T3:=hid (T2.out.below hb3);have B3:=then_ B2 hb3;clear x0 x1 A2 T2 B2 hb3 C3;obtain⟨x0,x1⟩:=A3.two;cases t3:numsOk k.tn k.T k.on k.O with
 |false=>
  go_wp2;go_ret;exact⟨ret_bool (by simp[kerOk,t3]),B3⟩
 |true=>
 have C4:=hid (boxesOk_any k.oa k.on k.ok k.O w3 HC.out T3.out.2.2.2 t2 HW.out);have OK:Hid (kerOk k=(upsOk k.on k.O&&reachB (fun i=>(k.O i).id) (fun i=>(k.O i).up) k.on)):=hid (by simp[kerOk,t1,t2,t3]);clear t1 t2 t3;go_wp2_with fail
 refine C4.out.mono ?_;rintro e w4 ⟨rfl,hb4⟩;have B4:=then_ B3 hb4;rw[←OK.out];clear x0 x1 A3 T3 B3 hb4 C4;go_wp2;go_ret;exact⟨rfl,B4⟩
def inX(O:Nat→ObjV)(x:Int)(q:Nat):List Int:=((List.range q).filter (fun j=>(O j).up==x)).map (fun i=>(O i).id)
theorem inX_yes{O:Nat→ObjV}{x:Int}{q:Nat}(h:(O q).up=x):inX O x (q+1)=inX O x q++[(O q).id]:=by
 simp[inX,List.range_succ,h]
theorem inX_no{O:Nat→ObjV}{x:Int}{q:Nat}(h:(O q).up≠x):inX O x (q+1)=inX O x q:=by
 simp[inX,List.range_succ,h]
theorem inX_len(O:Nat→ObjV)(x:Int)(q:Nat):(inX O x q).length≤q:=by
 unfold inX;rw[List.length_map];exact Nat.le_trans (List.length_filter_le _ _) (by simp)
theorem inX_kids{O:Nat→ObjV}{n u:Nat}:inX O (O u).id n=kidsTo (fun i=>(O i).id) (fun i=>(O i).up) n u:=rfl
theorem l3Kids_any(k:KerV)(x:Int)(w:World)(hk:k.at w)(hn:k.on≤271):
 Calls Tryz.prog 44 #[k.val,.int .i64 x] w fun e w'=>∃v,e= .returned v∧OwnI w' w.heap.size v (inX k.O x k.on)∧Below w.heap.size w w':=by
 have hb0:=(Below.refl _ w).alloc (Nat.le_refl _) (.cells #[.slice k.ta k.tn k.tk,.slice k.oa k.on k.ok] 27);have A0:=Blk.new w (.cells #[.slice k.ta k.tn k.tk,.slice k.oa k.on k.ok] 27);have bm:=hb0.alloc hb0.size (.cells #[] 2);have A1:=A0.alloc (.cells #[] 2);have O1:=OwnI.made (w.alloc (.cells #[.slice k.ta k.tn k.tk,.slice k.oa k.on k.ok] 27)) (w.heap.size+1) (by simp);have HT:=hid hk;unfold KerV.val;clear hk;go_enter Tryz.func44,Tryz.ntmps44
 go_wp2;generalize hW:((w.alloc (.cells #[.slice k.ta k.tn k.tk,.slice k.oa k.on k.ok] 27)).alloc (.cells #[] 2))=W at *;have O2:OwnI W (w.heap.size+1) (.slice (some ⟨w.heap.size+1,0,none⟩) 0 0) []:=by simpa using O1
 clear hW hb0 A0 O1;go_loopw [5,6] (fun v i wr=>∃q:Nat,q≤k.on∧i= .int .i64 q∧Hid (OwnI wr (w.heap.size+1) v (inX k.O x q))∧Blk wr w.heap.size (.cells #[.slice k.ta k.tn k.tk,.slice k.oa k.on k.ok] 27)∧Below w.heap.size w wr) (fun _ i _=>k.on-(intOf i).toNat)
 case atStart=>exact⟨0,Nat.zero_le _,rfl,hid O2,A1,bm⟩
 case round=>
  clear O2 A1 bm;obtain⟨q,hq,rfl,HO,A,hB⟩:=hrel;obtain⟨x0,x1⟩:=A.two;by_cases hlt:q<k.on
  ·obtain⟨b,off,ea,hlt0,hcc⟩:=HT.out.2.2.2.below hB (by omega);have q0:=(hcc q hlt).1.c0;have q2:=(hcc q hlt).1.c2;rw[ea]at x1;have i1:(q:Int)<(k.on:Int):=(by omega);clear hcc ea;by_cases e:(k.O q).up=x
   ·have e':((k.O q).up==x)=true:=(by simpa using e);have EQ:=hid (inX_yes e);have hl:=inX_len k.O x q;have B1:Below w.heap.size w (wr.alloc (.cells #[.int .i64 (k.O q).id] 2)):=hB.alloc hB.size _;have AA:=A.alloc (.cells #[.int .i64 (k.O q).id] 2);have OA:=hid (OwnI.alloc HO.out (.cells #[.int .i64 (k.O q).id] 2));have L1:=hid (NumL.one (w:=wr) (k.O q).id);have s1:w.heap.size+1≤(wr.alloc (.cells #[.int .i64 (k.O q).id] 2)).heap.size:=(by have:=A.lt;simp;omega);have FIN:Hid (∀w3:World,(wr.alloc (.cells #[.int .i64 (k.O q).id] 2)).grownBy w3 u5.ownBlock→Blk w3 w.heap.size (.cells #[.slice k.ta k.tn k.tk,.slice k.oa k.on k.ok] 27)∧Below w.heap.size w w3):=hid (fun w3 g3=>⟨AA.grown g3 (fun e=>by have:=(World.ownsRow.lt OA.out _ e.symm).1;omega),B1.trans (below_grown g3 B1.size (fun j hj=>by have:=(World.ownsRow.lt OA.out j hj).1;omega))⟩);clear e HO;go_wp2_with(refine wpList_append_ints _ rfl _ _ rfl (w.heap.size+1) u5 (inX k.O x q) rfl OA.out _ 1 1 [(k.O q).id] rfl rfl L1.out (by omega) s1 ?_;intro a3 c3 w3 o3 g3 v3)
    rw[←EQ.out]at o3;obtain⟨f1,f2⟩:=FIN.out w3 g3;exact⟨⟨q+1,by omega,by go_num,hid (by first|exact o3|simpa[EQ.out]using o3),f1,f2⟩,by simp[intOf];omega⟩
   ·have e':((k.O q).up==x)=false:=(by simpa using e);have EQ:=hid (inX_no e);clear e;go_wp2;exact⟨⟨q+1,by omega,by go_num,hid (by rw[EQ.out];exact HO.out),A,hB⟩,by simp[intOf];omega⟩
  ·have i1:¬(q:Int)<(k.on:Int):=(by omega);have e:q=k.on:=(by omega);have HO2:Hid (OwnI wr (w.heap.size+1) u5 (inX k.O x k.on)):=hid (by rw[←e];exact HO.out);clear HO e;go_wp2;go_ret;exact⟨u5,rfl,HO2.out.low (by omega),hB⟩
theorem kerOk_parts{k:KerV}(h:kerOk k=true):thrsOk k.tn k.T=true∧objsOk k.on k.O=true∧numsOk k.tn k.T k.on k.O=true∧upsOk k.on k.O=true∧reachB (fun i=>(k.O i).id) (fun i=>(k.O i).up) k.on=true:=by
 simp only[kerOk,Bool.and_eq_true]at h;exact⟨h.1.1.1.1,h.1.1.1.2,h.1.1.2,h.1.2,h.2⟩

theorem putL_len(L:List Int)(x:Int):(putL L x).length≤L.length+1:=by
 unfold putL;split
 ·omega
 ·simp;omega
theorem putL_pos(L:List Int)(x:Int):0<(putL L x).length:=by
 unfold putL;split
 ·rename_i h;have:=(List.getElem?_eq_some_iff.1 h).1;omega
 ·simp;omega
theorem putL_mem{L:List Int}{x y:Int}(h:y∈putL L x):y∈L∨y=x:=by
 unfold putL at h;split at h
 ·exact .inl h
 ·rw[List.mem_append,List.mem_append,List.mem_singleton]at h;rcases h with(h|h)|h
  ·exact .inl (List.mem_of_mem_take h)
  ·exact .inr h
  ·exact .inl (List.mem_of_mem_drop h)
theorem putL_rise{L:List Int}{x:Int}(h:L.Pairwise (· <·)):(putL L x).Pairwise (· <·):=by
 unfold putL;split
 ·exact h
 ·rename_i hx;have hlo:∀y∈L.take (putAt L x),y<x:=by
   intro y hy;obtain⟨j,hj,rfl⟩:=List.getElem_of_mem hy;have hj':j<putAt L x:=(by simp at hj;omega);have:=List.not_of_lt_findIdx hj';simp at this;simpa using this
  have hhi:∀y∈L.drop (putAt L x),x<y:=by
   intro y hy;obtain⟨j,hj,rfl⟩:=List.getElem_of_mem hy;rw[List.getElem_drop];have hlen:putAt L x<L.length:=(by simp at hj;omega);have h0:¬L[putAt L x]<x:=by
    have:=List.findIdx_getElem (xs:=L) (p:=fun y=> !decide (y<x)) (w:=hlen);unfold putAt;simpa using this
   have h1:L[putAt L x]≠x:=fun e=>hx (by rw[List.getElem?_eq_getElem hlen,e]);by_cases ej:j=0
   ·subst ej;simp;omega
   ·have:=List.pairwise_iff_getElem.1 h (putAt L x) (putAt L x+j) hlen (by simp at hj;omega) (by omega);omega
  rw[List.append_assoc,List.pairwise_append];refine⟨h.sublist (List.take_sublist _ _),?_,?_⟩
  ·rw[List.singleton_append,List.pairwise_cons];exact⟨hhi,h.sublist (List.drop_sublist _ _)⟩
  ·intro y hy z hz;have h1:=hlo y hy;rw[List.singleton_append,List.mem_cons]at hz;rcases hz with rfl|hz
   ·exact h1
   ·have:=hhi z hz;omega
theorem putL_in{L:List Int}{x y:Int}:y∈putL L x↔y∈L∨y=x:=by
 refine⟨putL_mem,fun h=>?_⟩;unfold putL;split
 ·rename_i e;rcases h with h|rfl
  ·exact h
  ·exact List.mem_of_getElem? e
 ·rcases h with h|rfl
  ·rw[←List.take_append_drop (putAt L x) L]at h;rcases List.mem_append.1 h with h|h
   ·exact List.mem_append_left _ (List.mem_append_left _ h)
   ·exact List.mem_append_right _ h
  ·simp
theorem rise_ext:∀{l m:List Int},l.Pairwise (· <·)→m.Pairwise (· <·)→(∀x,x∈l↔x∈m)→l=m
 |[],[],_,_,_=>rfl
 |[],b::m,_,_,h=>by have:=(h b).2 List.mem_cons_self;cases this
 |a::l,[],_,_,h=>by have:=(h a).1 List.mem_cons_self;cases this
 |a::l,b::m,h1,h2,h=>by
  obtain⟨a1,a2⟩:=List.pairwise_cons.1 h1;obtain⟨b1,b2⟩:=List.pairwise_cons.1 h2;have e:a=b:=by
   rcases List.mem_cons.1 ((h a).1 List.mem_cons_self)with e|e
   ·exact e
   ·rcases List.mem_cons.1 ((h b).2 List.mem_cons_self)with e'|e'
    ·exact e'.symm
    ·have:=a1 b e';have:=b1 a e;omega
  subst e;rw[rise_ext a2 b2 fun x=>?_];constructor
  ·intro hx;rcases List.mem_cons.1 ((h x).1 (List.mem_cons_of_mem _ hx))with e|e
   ·subst e;have:=a1 x hx;omega
   ·exact e
  ·intro hx;rcases List.mem_cons.1 ((h x).2 (List.mem_cons_of_mem _ hx))with e|e
   ·subst e;have:=b1 x hx;omega
   ·exact e
theorem sortL_mem{l:List Int}{x:Int}:x∈sortL l↔x∈l:=(List.mergeSort_perm l _).mem_iff
theorem sortL_rise{l:List Int}(h:l.Nodup):(sortL l).Pairwise (· <·):=by
 have h1:(sortL l).Pairwise (fun a b=>a≤b):=by
  have:=List.pairwise_mergeSort (le:=fun(x y:Int)=>decide (x≤y)) (fun a b c h1 h2=>by simp at *;omega) (fun a b=>by simp;omega) l;exact this.imp (fun h=>by simpa using h)
 have h2:(sortL l).Nodup:=(List.mergeSort_perm l _).nodup_iff.2 h;exact(h1.and h2).imp (fun{a b} ⟨h3,h4⟩=>by omega)
def putAll(L:List Int):List Int:=L.foldl putL []
theorem putAll_rise(L:List Int):(putAll L).Pairwise (· <·):=by
 unfold putAll;have:∀(M:List Int),M.Pairwise (· <·)→(L.foldl putL M).Pairwise (· <·):=by
  induction L with
  |nil=>intro M h;exact h
  |cons a L ih=>intro M h;exact ih _ (putL_rise h)
 exact this [] List.Pairwise.nil
theorem putAll_mem(L:List Int)(x:Int):x∈putAll L↔x∈L:=by
 unfold putAll;have:∀(M:List Int),x∈L.foldl putL M↔x∈M∨x∈L:=by
  induction L with
  |nil=>intro M;simp
  |cons a L ih=>intro M;rw[List.foldl_cons,ih,putL_in,List.mem_cons];exact or_assoc
 rw[this []];simp
theorem putAll_len(L:List Int):(putAll L).length≤L.length:=by
 unfold putAll;have:∀(M:List Int),(L.foldl putL M).length≤M.length+L.length:=by
  induction L with
  |nil=>intro M;simp
  |cons a L ih=>intro M;rw[List.foldl_cons];have:=ih (putL M a);have:=putL_len M a;simp only[List.length_cons];omega
 simpa using this []
section
variable {ids ups:Nat→Int}{n u:Nat}
structure Bfs(ids ups:Nat→Int)(n u t:Nat)(Q:List Nat):Prop where
 nodup:Q.Nodup
 head:Q[0]? =some u
 mem:∀j∈Q,j<n∧∃m,parIt ids ups n m j=some u
 closed:∀s a,s<t→Q[s]? =some a→∀c∈kidsI ids ups n a,c∈Q
 origin:∀s c,0<s→Q[s]? =some c→∃r a,r<t∧Q[r]? =some a∧par ids ups n c=some a
theorem Bfs.start(hu:u<n):Bfs ids ups n u 0 [u]:=by
 refine⟨by simp,rfl,fun j hj=>?_,fun s a hs=>by omega,fun s c hs e=>?_⟩
 ·simp at hj;subst hj;exact⟨hu,0,rfl⟩
 ·cases s with
  |zero=>omega
  |succ s=>simp at e
theorem Bfs.step(hr:Rises ids n)(h0:∀j,j<n→ids j≠ups 0)(hc:NoCyc ids ups n u){t a:Nat}{Q:List Nat}(h:Bfs ids ups n u t Q)(ht:Q[t]? =some a):Bfs ids ups n u (t+1) (Q++kidsI ids ups n a):=by
 have hta:t<Q.length:=(List.getElem?_eq_some_iff.1 ht).1;obtain⟨han,ma,hma⟩:=h.mem a (List.mem_of_getElem? ht);have kid:∀c,c∈kidsI ids ups n a→c<n∧par ids ups n c=some a:=fun c hc=>(mem_kids hr h0 han).1 hc;have old:∀{s x},Q[s]? =some x→(Q++kidsI ids ups n a)[s]? =some x:=fun{s x} e=>by
  rw[List.getElem?_append_left (List.getElem?_eq_some_iff.1 e).1];exact e
 refine⟨?_,old h.head,fun j hj=>?_,fun s b hs e c hcb=>?_,fun s c hs e=>?_⟩
 ·rw[List.nodup_append];refine⟨h.nodup,List.Nodup.sublist List.filter_sublist List.nodup_range,fun x hx y hy exy=>?_⟩;subst exy;obtain⟨_,px⟩:=kid x hy;obtain⟨s,hs,es⟩:=List.getElem_of_mem hx;by_cases s0:s=0
  ·subst s0;have:x=u:=(by have:=h.head;rw[List.getElem?_eq_getElem hs,es]at this;simpa using this);subst this;exact hc ma (by simp only[parIt,px,Option.bind_some];exact hma)
  ·obtain⟨r,b,hrt,hb,pb⟩:=h.origin s x (by omega) (by rw[List.getElem?_eq_getElem hs,es]);rw[px]at pb;have eab:a=b:=(by simpa using pb);subst eab;have hrl:=(List.getElem?_eq_some_iff.1 hb).1;have e1:=(List.getElem?_eq_some_iff.1 hb).2;have e2:=(List.getElem?_eq_some_iff.1 ht).2;have:=(List.getElem_inj (h₀:=hrl) (h₁:=hta) h.nodup).1 (e1.trans e2.symm);omega
 ·rcases List.mem_append.1 hj with hj|hj
  ·exact h.mem j hj
  ·obtain⟨h1,h2⟩:=kid j hj;exact⟨h1,ma+1,by simp only[parIt,h2,Option.bind_some];exact hma⟩
 ·by_cases est:s=t
  ·subst est;rw[old ht]at e;have:a=b:=(by simpa using e);subst this;exact List.mem_append_right _ hcb
  ·have hsl:s<Q.length:=(by omega);rw[List.getElem?_append_left hsl]at e;exact List.mem_append_left _ (h.closed s b (by omega) e c hcb)
 ·by_cases hsl:s<Q.length
  ·rw[List.getElem?_append_left hsl]at e;obtain⟨r,b,h1,h2,h3⟩:=h.origin s c hs e;exact⟨r,b,by omega,old h2,h3⟩
  ·rw[List.getElem?_append_right (by omega)]at e;exact⟨t,a,by omega,old ht,(kid c (List.mem_of_getElem? e)).2⟩
theorem Bfs.len{t:Nat}{Q:List Nat}(h:Bfs ids ups n u t Q):Q.length≤n:=nodup_len h.nodup (fun x hx=>(h.mem x hx).1)
theorem Bfs.all(hr:Rises ids n)(h0:∀j,j<n→ids j≠ups 0){Q:List Nat}(h:Bfs ids ups n u Q.length Q)(j:Nat):j∈Q↔j<n∧∃m,parIt ids ups n m j=some u:=by
 refine⟨h.mem j,?_⟩;rintro⟨hj,m,e⟩;induction m generalizing j with
 |zero=>
  simp only[parIt,Option.some.injEq]at e;subst e;exact List.mem_of_getElem? h.head
 |succ m ih=>
  simp only[parIt]at e;cases ep:par ids ups n j with
  |none=>simp[ep]at e
  |some p=>
   simp only[ep,Option.bind_some]at e;have hp:=ih p (par_lt ep) e;obtain⟨s,hs,es⟩:=List.getElem_of_mem hp;exact h.closed s p hs (by rw[List.getElem?_eq_getElem hs,es]) j ((mem_kids hr h0 (par_lt ep)).2 ⟨hj,ep⟩)
theorem bfs_pre(hr:Rises ids n)(h0:∀j,j<n→ids j≠ups 0)(hu:u<n)(hc:NoCyc ids ups n u){Q:List Nat}(h:Bfs ids ups n u Q.length Q):putAll (Q.map ids)=sortL ((preI ids ups n n u).map ids):=by
 have inj:∀{l:List Nat},l.Nodup→(∀x∈l,x<n)→(l.map ids).Nodup:=fun{l} hl hx=>by
  rw[List.Nodup,List.pairwise_map];refine List.Pairwise.imp_of_mem ?_ hl;intro a b ha hb hab e;exact hab (hr.inj (hx a ha) (hx b hb) e)
 refine rise_ext (putAll_rise _) (sortL_rise (inj (nodup_pre hr h0 hu hc) (fun x hx=>((mem_pre hr h0 hu).1 hx).1))) fun x=>?_;rw[putAll_mem,sortL_mem,List.mem_map,List.mem_map];constructor
 ·rintro⟨j,hj,rfl⟩;obtain⟨h1,m,h2⟩:=h.mem j hj;exact⟨j,(mem_pre hr h0 hu).2 ⟨h1,m,height hc h1 h2,h2⟩,rfl⟩
 ·rintro⟨j,hj,rfl⟩;obtain⟨h1,m,_,h2⟩:=(mem_pre hr h0 hu).1 hj;exact⟨j,(h.all hr h0 j).2 ⟨h1,m,h2⟩,rfl⟩
end
end Go.Proofs.YtbacmamplkdgaaaGreatDoor
