import Derived.Test.YtbacmamplkdgaaaGreatDoorFBb
import Derived.Test.YtbacmamplkdgaaaGreatDoorZ0b
import Derived.RangeFuncFrom
import Derived.Test.YtbacmamplkdgaaaGreatDoorZ1b
import Derived.Test.YtbacmamplkdgaaaGreatDoorZ33b
import Derived.Test.YtbacmamplkdgaaaGreatDoorZ34b
set_option maxRecDepth 100000
set_option maxHeartbeats 8000000
namespace Go.Proofs.YtbacmamplkdgaaaGreatDoor
open Go.RowKit Go.Deep Go.Maps Go.Shelf
attribute [local go_sem] Oper.semAt_some
theorem index_any(a:Option Addr)(n cap:Nat)(h:Nat→Int)(x:Int)(w:World)(hn:n≤maxLen)(hc:IntsAt w a n h):
 Calls Tryz.prog 152 #[.slice a n cap,.int .i64 x] w fun e w'=>∃r:Int,e= .returned (.int .i64 r)∧(decide (0≤r)=hasB n h x)∧w'=w:=by
 unfold maxLen at hn;go_enter Tryz.func152,Tryz.ntmps152
 go_wp2;go_loop [8] (fun i=>∃k:Nat,k≤n∧i= .int .i64 k∧(∀j,j<k→h j≠x)) (fun i=>n-(intOf i).toNat)
 case atStart=>exact⟨0,Nat.zero_le _,rfl,fun j hj=>by omega⟩
 case round=>
  obtain⟨k,hk,rfl,hall⟩:=hrel;have HA:Hid (∀j,j<k→h j≠x):=hall;clear hall;by_cases hlt':k<n
  ·obtain⟨b,off,rfl,hlt,hcc⟩:=hc (by omega);have g1:=hcc k hlt';clear hcc hc;by_cases t:(x==h k)=true
   ·go_wp2;go_ret;exact⟨_,rfl,by rw[hasB_yes hlt' (by simpa using(beq_iff_eq.1 t).symm)];simp,rfl⟩
   ·have t':(x==h k)=false:=(by simpa using t);clear t;go_wp2;go_round;case rel=>
     refine⟨k+1,by omega,by go_num,fun j hj=>?_⟩;by_cases e:j=k
     ·subst e;intro q;rw[q]at t';simp at t'
     ·exact HA.out j (by omega)
    case measure=>simp[intOf];omega
  ·clear hc;go_wp2;go_ret;have e:k=n:=(by omega);subst e;exact⟨_,rfl,by rw[hasB_no HA.out];simp,rfl⟩
theorem contains_any(a:Option Addr)(n cap:Nat)(h:Nat→Int)(x:Int)(w:World)(hn:n≤maxLen)(hc:IntsAt w a n h):
 Calls Tryz.prog 131 #[.slice a n cap,.int .i64 x] w fun e w'=>e= .returned (.bool (hasB n h x))∧w'=w:=by
 go_enter Tryz.func131,Tryz.ntmps131
 go_wp2_with(go_at_call 152;refine(index_any _ _ _ h _ _ hn hc).mono ?_;rintro e w' ⟨r,rfl,hr,rfl⟩)
 all_goals
  go_ret;refine⟨ret_bool ?_,rfl⟩;rw[←hr];first|done|(simp;done)|(simp;omega)
theorem catsAbove_any(ba:Int)(aa:Option Addr)(na ka:Nat)(bb:Int)(ab:Option Addr)(nb kb:Nat)(w:World):
 Calls Tryz.prog 130 #[.agg #[.int .i64 ba,.slice aa na ka],.agg #[.int .i64 bb,.slice ab nb kb]] w fun e w'=>e= .returned (.func (.func 151) #[] #[.pointer (some ⟨w.heap.size,0,none⟩),.pointer (some ⟨w.heap.size+1,0,none⟩)])∧
  w'=(w.alloc (.cells #[.int .i64 ba,.slice aa na ka] 30)).alloc (.cells #[.int .i64 bb,.slice ab nb kb] 30):=by
 go_enter Tryz.func130,Tryz.ntmps130
 go_wp2;go_ret;exact⟨rfl,rfl⟩
def flowAll(ba:Int)(na:Nat)(fa ga:Nat→Int)(no:Nat)(ho:Nat→Int)(bb:Int)(nb:Nat)(fb gb:Nat→Int):Bool:=
 labOk ba na fa ga&&labOk bb nb fb gb&&ownOk no ho&&flowsB ba na fa ga no ho bb nb fb gb
theorem named_of_above{ba:Int}{na:Nat}{fa ga:Nat→Int}{bb:Int}{nb:Nat}{fb gb:Nat→Int}{x:Int}(h0:ba≤bb)(h:levOf bb nb fb gb x<levOf ba na fa ga x):
 ((look fa ga na x).isSome||(look fb gb nb x).isSome)=true:=by
 cases h1:look fa ga na x with
 |some v=>simp
 |none=>
  cases h2:look fb gb nb x with
  |some v=>simp
  |none=>simp[levOf,h1,h2]at h;omega
theorem flows_of_owned{ba:Int}{na:Nat}{fa ga:Nat→Int}{no:Nat}{ho:Nat→Int}{bb:Int}{nb:Nat}{fb gb:Nat→Int}(h0:ba≤bb)
 (h:∀x,aboveB ba na fa ga bb nb fb gb x=true→hasB no ho x=true):flowsB ba na fa ga no ho bb nb fb gb=true:=by
 refine flowsB_mk h0 fun i hi=>?_;unfold letB;by_cases e:levOf bb nb fb gb (glue na fa fb i)<levOf ba na fa ga (glue na fa fb i)
 ·rw[h _ (by unfold aboveB;rw[named_of_above h0 e];simpa using e)];rfl
 ·simp[e]
theorem flows_not_owned{ba:Int}{na:Nat}{fa ga:Nat→Int}{no:Nat}{ho:Nat→Int}{bb:Int}{nb:Nat}{fb gb:Nat→Int}{x:Int}
 (h:aboveB ba na fa ga bb nb fb gb x=true)(ho':hasB no ho x=false):flowsB ba na fa ga no ho bb nb fb gb=false:=by
 unfold aboveB at h;rw[Bool.and_eq_true,Bool.or_eq_true]at h;have hl:letB ba na fa ga no ho bb nb fb gb x=false:=by unfold letB;rw[ho',h.2];rfl
 rcases h.1 with e|e
 ·obtain⟨i,hi,e⟩:=look_isSome e;exact flowsB_at (k:=i) (by omega) (by simp only[glue,hi,if_true];rw[e];exact hl)
 ·obtain⟨i,hi,e⟩:=look_isSome e;exact flowsB_at (k:=na+i) (by omega) (by
   have e1:¬na+i<na:=(by omega);have e2:na+i-na=i:=(by omega);simp only[glue,e1,if_false,e2];rw[e];exact hl)
theorem implFlows_any(ba:Int)(aa:Option Addr)(na ka:Nat)(fa ga:Nat→Int)(ao:Option Addr)(no ko:Nat)(ho:Nat→Int)(bb:Int)(ab:Option Addr)(nb kb:Nat)(fb gb:Nat→Int)(w:World)
 (hna:na≤maxLen)(hnb:nb≤maxLen)(hno:no≤maxLen)(hca:CatsAt w aa na fa ga)(hcb:CatsAt w ab nb fb gb)(hco:IntsAt w ao no ho):
 Calls Tryz.prog 109 #[.agg #[.int .i64 ba,.slice aa na ka],.slice ao no ko,.agg #[.int .i64 bb,.slice ab nb kb]] w fun e w'=>e= .returned (.bool (flowAll ba na fa ga no ho bb nb fb gb))∧Below w.heap.size w w':=by
 have hb0:=((((Below.refl _ w).alloc (Nat.le_refl _) (.cells #[.int .i64 ba,.slice aa na ka] 30)).alloc (by simp) (.cells #[.slice ao no ko] 34)).alloc (by simp;omega) (.cells #[.int .i64 bb,.slice ab nb kb] 30)).alloc (by simp;omega) (.cells #[.bool false] 4);obtain⟨W0,hW0⟩:∃W0,W0=((((w.alloc (.cells #[.int .i64 ba,.slice aa na ka] 30)).alloc (.cells #[.slice ao no ko] 34)).alloc (.cells #[.int .i64 bb,.slice ab nb kb] 30)).alloc (.cells #[.bool false] 4)):=⟨_,rfl⟩;have y1:W0.cell? ⟨w.heap.size,0,none⟩=some (.int .i64 ba):=by rw[hW0];go_simp
 have y2:W0.cell? ⟨w.heap.size,1,none⟩=some (.slice aa na ka):=by rw[hW0];go_simp
 have y3:W0.cell? ⟨w.heap.size+1,0,none⟩=some (.slice ao no ko):=by rw[hW0];go_simp
 have y4:W0.cell? ⟨w.heap.size+1+1,0,none⟩=some (.int .i64 bb):=by rw[hW0];go_simp
 have y5:W0.cell? ⟨w.heap.size+1+1,1,none⟩=some (.slice ab nb kb):=by rw[hW0];go_simp
 have y6:W0.cell? ⟨w.heap.size+1+1+1,0,none⟩=some (.bool false):=by rw[hW0];go_simp
 have y7:W0.frozen? ⟨w.heap.size+1+1+1,0,none⟩=false:=by rw[hW0];go_simp
 have ys:W0.heap.size=w.heap.size+4:=by rw[hW0];simp
 rw[←hW0]at hb0;have HW0:Hid (W0=((((w.alloc (.cells #[.int .i64 ba,.slice aa na ka] 30)).alloc (.cells #[.slice ao no ko] 34)).alloc (.cells #[.int .i64 bb,.slice ab nb kb] 30)).alloc (.cells #[.bool false] 4))):=hW0;clear hW0;have fin:Hid (∀W1,Below w.heap.size w W1→W1.cell? ⟨w.heap.size+1+1+1,0,none⟩=some (.bool false)→flowAll ba na fa ga no ho bb nb fb gb=false→
  ∀tm:Array Value,tm[6]? =some (.pointer (some ⟨w.heap.size+1+1+1,0,none⟩))→bodyPost Tryz.prog Tryz.f109 (fun e w'=>e= .returned (.bool (flowAll ba na fa ga no ho bb nb fb gb))∧Below w.heap.size w w') .ret {tmps:=tm,defers:=[]} (W1.setCell ⟨w.heap.size+1+1+1,0,none⟩ (.bool false))):=fun W1 hB hc hf tm ht=>by
  have hc5:=World.cell?_setCell_same' W1 ⟨w.heap.size+1+1+1,0,none⟩ (.bool false) (by rw[hc];rfl);refine bodyPost_ret (v:= .bool false) ?_ rfl ⟨by rw[hf],hB.setCell (p:=⟨w.heap.size+1+1+1,0,none⟩) (by dsimp only;omega) _⟩;simp[results,Tryz.results109,go_sem,ht,hc5]
 by_cases good:labOk ba na fa ga=true∧labOk bb nb fb gb=true∧ownOk no ho=true∧ba≤bb
 ·obtain⟨t1,t2,t3,t4⟩:=good;refine(callsIn_wide (n:=4)).1 ?_;refine callsIn_of_wp_marks Tryz.func109 rfl trivial ?_ rfl;simp only[Tryz.ntmps109,List.size_toArray,List.length_cons,List.length_nil,Nat.reduceAdd,Nat.reduceSub,Array.replicate_succ,Array.replicate_zero,List.push_toArray,List.append_toArray,List.nil_append,List.cons_append];gi_wp2_with fail;rw[←HW0.out];refine⟨trivial,?_⟩;refine(callsIn_wide.2 (implOk_any _ _ _ _ fa ga _ hna (hca.below hb0))).mono ?_;rintro e w1 ⟨rfl,hb1⟩;have z1:w.heap.size+1+1+1<w1.heap.size:=by have:=hb1.size;omega
  have B1:Below w.heap.size w w1:=hb0.trans (hb1.mono (by omega));have x1:=(hb1.cell (p:=⟨w.heap.size,0,none⟩) (by dsimp only;omega)).trans y1;have x2:=(hb1.cell (p:=⟨w.heap.size,1,none⟩) (by dsimp only;omega)).trans y2;have x3:=(hb1.cell (p:=⟨w.heap.size+1,0,none⟩) (by dsimp only;omega)).trans y3;have x4:=(hb1.cell (p:=⟨w.heap.size+1+1,0,none⟩) (by dsimp only;omega)).trans y4;have x5:=(hb1.cell (p:=⟨w.heap.size+1+1,1,none⟩) (by dsimp only;omega)).trans y5;have x6:=(hb1.cell (p:=⟨w.heap.size+1+1+1,0,none⟩) (by dsimp only;omega)).trans y6;have x7:=(hb1.frozen (p:=⟨w.heap.size+1+1+1,0,none⟩) (by dsimp only;omega)).trans y7;clear y1 y2 y3 y4 y5 y6 y7 hb1;gi_wp2_with fail;refine⟨trivial,?_⟩;refine(callsIn_wide.2 (implOk_any _ _ _ _ fb gb _ hnb (hcb.below B1))).mono ?_;rintro e w2 ⟨rfl,hb2⟩;have z2:w.heap.size+1+1+1<w2.heap.size:=by have:=hb2.size;omega
  have B2:Below w.heap.size w w2:=B1.trans (hb2.mono (by omega));have u1:=(hb2.cell (p:=⟨w.heap.size,0,none⟩) (by dsimp only;omega)).trans x1;have u2:=(hb2.cell (p:=⟨w.heap.size,1,none⟩) (by dsimp only;omega)).trans x2;have u3:=(hb2.cell (p:=⟨w.heap.size+1,0,none⟩) (by dsimp only;omega)).trans x3;have u4:=(hb2.cell (p:=⟨w.heap.size+1+1,0,none⟩) (by dsimp only;omega)).trans x4;have u5:=(hb2.cell (p:=⟨w.heap.size+1+1,1,none⟩) (by dsimp only;omega)).trans x5;have u6:=(hb2.cell (p:=⟨w.heap.size+1+1+1,0,none⟩) (by dsimp only;omega)).trans x6;have u7:=(hb2.frozen (p:=⟨w.heap.size+1+1+1,0,none⟩) (by dsimp only;omega)).trans x7;clear x1 x2 x3 x4 x5 x6 x7 hb2;gi_wp2_with fail;refine⟨trivial,?_⟩;refine(callsIn_wide.2 (ownsOk_any _ _ _ ho _ hno (hco.below B2))).mono ?_;rintro e w3 ⟨rfl,rfl⟩;gi_wp2_with fail;refine⟨trivial,?_⟩;refine(callsIn_wide.2 (catsAbove_any _ _ _ _ _ _ _ _ _)).mono ?_;rintro e w4 ⟨rfl,h4⟩;have c1:w4.cell? ⟨w3.heap.size,0,none⟩=some (.int .i64 ba):=by rw[h4];go_simp
  have c2:w4.cell? ⟨w3.heap.size,1,none⟩=some (.slice aa na ka):=by rw[h4];go_simp
  have c3:w4.cell? ⟨w3.heap.size+1,0,none⟩=some (.int .i64 bb):=by rw[h4];go_simp
  have c4:w4.cell? ⟨w3.heap.size+1,1,none⟩=some (.slice ab nb kb):=by rw[h4];go_simp
  have z4:w4.heap.size=w3.heap.size+2:=by rw[h4];simp
  have hb4:Below w3.heap.size w3 w4:=by rw[h4];exact((Below.refl _ _).alloc (Nat.le_refl _) _).alloc (by simp) _
  clear h4;have B4:Below w.heap.size w w4:=B2.trans (hb4.mono (by omega));have x1:=(hb4.cell (p:=⟨w.heap.size,0,none⟩) (by dsimp only;omega)).trans u1;have x2:=(hb4.cell (p:=⟨w.heap.size,1,none⟩) (by dsimp only;omega)).trans u2;have x3:=(hb4.cell (p:=⟨w.heap.size+1,0,none⟩) (by dsimp only;omega)).trans u3;have x4:=(hb4.cell (p:=⟨w.heap.size+1+1,0,none⟩) (by dsimp only;omega)).trans u4;have x5:=(hb4.cell (p:=⟨w.heap.size+1+1,1,none⟩) (by dsimp only;omega)).trans u5;have x6:=(hb4.cell (p:=⟨w.heap.size+1+1+1,0,none⟩) (by dsimp only;omega)).trans u6;have x7:=(hb4.frozen (p:=⟨w.heap.size+1+1+1,0,none⟩) (by dsimp only;omega)).trans u7;clear u1 u2 u3 u4 u5 u6 u7 hb4;gi_wp2_with fail;have hLt:TwoLabs w4 w3.heap.size (w3.heap.size+1) ba aa na ka fa ga bb ab nb kb fb gb:=⟨by omega,by omega,c1,c2,c3,c4,hca.below B4,hcb.below B4⟩;have ma:na≤1048576:=by have:=(labOk_out t1).2.1;omega
  have mb:nb≤1048576:=by have:=(labOk_out t2).2.1;omega
  have hseq:SeqStopsK Fence.wide 3 Tryz.prog 151 #[.pointer (some ⟨w3.heap.size,0,none⟩),.pointer (some ⟨w3.heap.size+1,0,none⟩)] (fun x:Int=>#[Value.int .i64 x]) KeepsAll
   (fun xs=>∀x,x∈xs↔aboveB ba na fa ga bb nb fb gb x=true) (fun pre=>∀x,x∈pre→aboveB ba na fa ga bb nb fb gb x=true) (na+nb) w4:=fun l J Jx W hW hJ hJx hY h0=>
   callsIn_wide.2 (catsAbove1_in l w3.heap.size (w3.heap.size+1) ba aa na ka fa ga bb ab nb kb fb gb J Jx W ma mb (labOk_wf t1) (labOk_wf t2) (hLt.below hW) hJ hY h0)
  clear c1 c2 c3 c4 hLt x1 x2 x4 x5;refine wpIn_rangeFunc_ownF rfl (by omega) (gf:=151) (lb:=#[.pointer (some ⟨w3.heap.size,0,none⟩),.pointer (some ⟨w3.heap.size+1,0,none⟩)]) rfl trivial (enters_of Tryz.func151 (by kernel_rfl) rfl)
   hseq KeepsAll.trans (KeepsAll.book (w:=w4)) (Below.refl _ _) (fun _=>rfl)
   (fun pre W=>((∀y,y∈pre→hasB no ho y=true)∧W.cell? ⟨w.heap.size+1,0,none⟩=some (.slice ao no ko)∧W.cell? ⟨w.heap.size+1+1+1,0,none⟩=some (.bool false)∧W.frozen? ⟨w.heap.size+1+1+1,0,none⟩=false)∧Below w.heap.size w W)
   (fun c pre W=>(c= .ret∧(∃y,y∈pre∧hasB no ho y=false)∧W.cell? ⟨w.heap.size+1+1+1,0,none⟩=some (.bool false))∧Below w.heap.size w W)
   (OwnFrom.and (Own.from (fun s A B row hs hg hr=>⟨hs.1,cell_kept hs.2.1 hg hr,cell_kept hs.2.2.1 hg hr,(frozen_kept hs.2.2.1 hg hr).trans hs.2.2.2⟩) _) (ownFrom_below (Nat.le_refl _) (by omega)))
   (fun c=>OwnFrom.and (Own.from (fun s A B row hs hg hr=>⟨hs.1,hs.2.1,cell_kept hs.2.2 hg hr⟩) _) (ownFrom_below (Nat.le_refl _) (by omega)))
   ⟨⟨by simp,x3,x6,x7⟩,B4⟩
   (fun x=>{tmps:=#[.agg #[.int .i64 ba,.slice aa na ka],.slice ao no ko,.agg #[.int .i64 bb,.slice ab nb kb],.pointer (some ⟨w.heap.size,0,none⟩),.pointer (some ⟨w.heap.size+1,0,none⟩),.pointer (some ⟨w.heap.size+1+1,0,none⟩),.pointer (some ⟨w.heap.size+1+1+1,0,none⟩),.int .i64 x,.agg #[.int .i64 ba,.slice aa na ka],.bool true,.bool false,.bool false,.agg #[.int .i64 bb,.slice ab nb kb],.bool true,.bool false,.bool false,.bool false,.slice ao no ko,.bool true,.bool false,.bool false,.bool false,.pointer (some ⟨w.heap.size,0,none⟩),.int .i64 ba,.pointer (some ⟨w.heap.size+1+1,0,none⟩),.int .i64 bb,.bool (decide (bb<ba)),.bool (decide (bb<ba)),.agg #[.int .i64 ba,.slice aa na ka],.agg #[.int .i64 bb,.slice ab nb kb],.func (.func 151) #[] #[.pointer (some ⟨w3.heap.size,0,none⟩),.pointer (some ⟨w3.heap.size+1,0,none⟩)],.int .i64 x,undef,undef,undef,undef],defers:=[]}) ?assign ?body ?done ?stop
  case assign=>
   intro l x W K hK;gi_wp2;exact hK
  case body=>
   rintro l pre x W ⟨⟨hp,hcw,hcr,hfr⟩,hB⟩ _;have HP:Hid (∀y,y∈pre→hasB no ho y=true):=hp;clear hp;have hcon:=contains_any ao no ko ho x W hno (hco.below hB);gi_wp2_with fail;refine⟨trivial,?_⟩;refine(CallsIn.inRound l (callsIn_wide.2 hcon)).mono ?_;clear hcon;rintro e W1 ⟨rfl,rfl⟩;cases hx:hasB no ho x with
   |true=>
    have HX:Hid (hasB no ho x=true):=hx;clear hx;gi_wp2;exact⟨KeepsOthers.refl _,KeepsAll.refl _,⟨fun y hy=>(List.mem_append.1 hy).elim (HP.out y) (fun e=>by simp at e;subst e;exact HX.out),hcw,hcr,hfr⟩,hB⟩
   |false=>
    have HX:Hid (hasB no ho x=false):=hx;clear hx;gi_wp2;exact⟨KeepsOthers.setCell _ _ _,⟨rfl,⟨x,List.mem_append.2 (.inr (by simp)),HX.out⟩,World.cell?_setCell_same' _ _ _ (by rw[hcr];rfl)⟩,hB.setCell (p:=⟨w.heap.size+1+1+1,0,none⟩) (by dsimp only;omega) _⟩
  case done=>
   rintro D ys W hD hS ⟨⟨hne,_,hcr,hfr⟩,hB⟩ hK;have hflow:flowAll ba na fa ga no ho bb nb fb gb=true:=by
    have:=flows_of_owned (no:=no) (ho:=ho) t4 (fun x hx=>hne x ((hS x).2 hx));simp[flowAll,t1,t2,t3,this]
   have HF:Hid (flowAll ba na fa ga no ho bb nb fb gb=true):=hflow;clear hflow hS hne;gi_wp2;have hK':=(KeepsOthers.setCell W ⟨w.heap.size+1+1+1,0,none⟩ (.bool true)).same D _ hK rfl;refine⟨by simp,.inl ⟨_,_,rfl,run_takeDeferred hK',?_⟩⟩;have hc5:=cell_kept (World.cell?_setCell_same' W ⟨w.heap.size+1+1+1,0,none⟩ (.bool true) (by rw[hcr];rfl)) (grownBy_putObj' _ D (.deferred none)) (fun r e=>by cases e;exact⟨_,hK',rfl⟩);refine⟨.bool true,?_,by rw[HF.out],(hB.setCell (p:=⟨w.heap.size+1+1+1,0,none⟩) (by dsimp only;omega) _).trans (belowK_b (w:=w) (Nat.le_refl _) _ D _ _ (by omega) hK' rfl rfl)⟩;simp[results,Tryz.results109,go_sem,hc5]
  case stop=>
   rintro D c pre W hD hpre ⟨⟨rfl,⟨y,hy,hno'⟩,hcr⟩,hB⟩ hK;have HF:Hid (flowAll ba na fa ga no ho bb nb fb gb=false):=(by show _=_;simp[flowAll,flows_not_owned (hpre y hy) hno']);clear hpre;gi_wp2;refine⟨by simp,.inl ⟨_,_,rfl,run_takeDeferred hK,?_⟩⟩;have hc5:=cell_kept hcr (grownBy_putObj' _ D (.deferred none)) (fun r e=>by cases e;exact⟨_,hK,rfl⟩);refine⟨.bool false,?_,by rw[HF.out],hB.trans (belowK_b (w:=w) (Nat.le_refl _) W D _ _ (by omega) hK rfl rfl)⟩;simp[results,Tryz.results109,go_sem,hc5]
 ·go_enter Tryz.func109,Tryz.ntmps109
  go_wp2_with fail
  rw[←HW0.out];refine(implOk_any _ _ _ _ fa ga _ hna (hca.below hb0)).mono ?_;rintro e w1 ⟨rfl,hb1⟩;have z1:w.heap.size+1+1+1<w1.heap.size:=by have:=hb1.size;omega
  have B1:Below w.heap.size w w1:=hb0.trans (hb1.mono (by omega));have x1:=(hb1.cell (p:=⟨w.heap.size,0,none⟩) (by dsimp only;omega)).trans y1;have x2:=(hb1.cell (p:=⟨w.heap.size,1,none⟩) (by dsimp only;omega)).trans y2;have x3:=(hb1.cell (p:=⟨w.heap.size+1,0,none⟩) (by dsimp only;omega)).trans y3;have x4:=(hb1.cell (p:=⟨w.heap.size+1+1,0,none⟩) (by dsimp only;omega)).trans y4;have x5:=(hb1.cell (p:=⟨w.heap.size+1+1,1,none⟩) (by dsimp only;omega)).trans y5;have x6:=(hb1.cell (p:=⟨w.heap.size+1+1+1,0,none⟩) (by dsimp only;omega)).trans y6;have x7:=(hb1.frozen (p:=⟨w.heap.size+1+1+1,0,none⟩) (by dsimp only;omega)).trans y7;clear y1 y2 y3 y4 y5 y6 y7 hb1;by_cases t1:labOk ba na fa ga=true
  ·go_wp2_with fail
   refine(implOk_any _ _ _ _ fb gb _ hnb (hcb.below B1)).mono ?_;rintro e w2 ⟨rfl,hb2⟩;have z2:w.heap.size+1+1+1<w2.heap.size:=(by have:=hb2.size;omega);have B2:Below w.heap.size w w2:=B1.trans (hb2.mono (by omega));have u1:=(hb2.cell (p:=⟨w.heap.size,0,none⟩) (by dsimp only;omega)).trans x1;have u2:=(hb2.cell (p:=⟨w.heap.size,1,none⟩) (by dsimp only;omega)).trans x2;have u3:=(hb2.cell (p:=⟨w.heap.size+1,0,none⟩) (by dsimp only;omega)).trans x3;have u4:=(hb2.cell (p:=⟨w.heap.size+1+1,0,none⟩) (by dsimp only;omega)).trans x4;have u5:=(hb2.cell (p:=⟨w.heap.size+1+1,1,none⟩) (by dsimp only;omega)).trans x5;have u6:=(hb2.cell (p:=⟨w.heap.size+1+1+1,0,none⟩) (by dsimp only;omega)).trans x6;have u7:=(hb2.frozen (p:=⟨w.heap.size+1+1+1,0,none⟩) (by dsimp only;omega)).trans x7;clear x1 x2 x3 x4 x5 x6 x7 hb2;by_cases t2:labOk bb nb fb gb=true
   ·go_wp2_with fail
    refine(ownsOk_any _ _ _ ho _ hno (hco.below B2)).mono ?_;rintro e w3 ⟨rfl,rfl⟩;by_cases t3:ownOk no ho=true
    ·have t4:bb<ba:=by
      by_cases q:ba≤bb
      ·exact absurd ⟨t1,t2,t3,q⟩ good
      ·omega
     have HT:Hid (flowAll ba na fa ga no ho bb nb fb gb=false):=(by show _=_;simp[flowAll,flowsB_base t4]);clear good;go_wp2;exact fin.out _ B2 u6 HT.out _ rfl
    ·have t3':ownOk no ho=false:=(by simpa using t3);clear t3 good;have HT:Hid (flowAll ba na fa ga no ho bb nb fb gb=false):=(by show _=_;simp[flowAll,t3']);go_wp2;exact fin.out _ B2 u6 HT.out _ rfl
   ·have t2':labOk bb nb fb gb=false:=(by simpa using t2);clear t2 good;have HT:Hid (flowAll ba na fa ga no ho bb nb fb gb=false):=(by show _=_;simp[flowAll,t2']);go_wp2;exact fin.out w2 B2 u6 HT.out _ rfl
  ·have t1':labOk ba na fa ga=false:=(by simpa using t1);clear t1 good;have HT:Hid (flowAll ba na fa ga no ho bb nb fb gb=false):=(by show _=_;simp[flowAll,t1']);go_wp2;exact fin.out w1 B1 x6 HT.out _ rfl
theorem Blk.sevenF{W:World}{P t:Nat}{x0 x1 x2 x3 x4 x5 x6:Value}(h:Blk W P (.cells #[x0,x1,x2,x3,x4,x5,x6] t)):W.cell? ⟨P,0,none⟩=some x0∧W.cell? ⟨P,1,none⟩=some x1∧W.cell? ⟨P,2,none⟩=some x2∧W.cell? ⟨P,3,none⟩=some x3∧W.cell? ⟨P,4,none⟩=some x4∧W.cell? ⟨P,5,none⟩=some x5∧W.cell? ⟨P,6,none⟩=some x6:=by
 unfold Blk at h;simp[World.cell?,h]
def reachF(id made b1:Int)(n1:Nat)(f1 g1:Nat→Int)(b2:Int)(n2:Nat)(f2 g2:Nat→Int)(n3:Nat)(h:Nat→Int)(bl:Int)(nl:Nat)(fl gl:Nat→Int):Bool:=
 thrOk id made b1 n1 f1 g1 b2 n2 f2 g2 n3 h&&(labOk bl nl fl gl&&flowsB b1 n1 f1 g1 n3 h bl nl fl gl)
theorem thrOk_outF{id made b1:Int}{n1:Nat}{f1 g1:Nat→Int}{b2:Int}{n2:Nat}{f2 g2:Nat→Int}{n3:Nat}{h:Nat→Int}(t:thrOk id made b1 n1 f1 g1 b2 n2 f2 g2 n3 h=true):labOk b1 n1 f1 g1=true∧labOk b2 n2 f2 g2=true∧ownOk n3 h=true:=by
 simp only[thrOk,Bool.and_eq_true]at t;exact⟨t.1.1.1.2,t.1.1.2,t.1.2⟩
theorem implReaches_any(id made b1:Int)(a1:Option Addr)(n1 k1:Nat)(f1 g1:Nat→Int)(b2:Int)(a2:Option Addr)(n2 k2:Nat)(f2 g2:Nat→Int)(a3:Option Addr)(n3 k3:Nat)(h:Nat→Int)(bl:Int)(al:Option Addr)(nl kl:Nat)(fl gl:Nat→Int)(w:World)(hn1:n1≤maxLen)(hn2:n2≤maxLen)(hn3:n3≤maxLen)(hc1:CatsAt w a1 n1 f1 g1)(hc2:CatsAt w a2 n2 f2 g2)(hc3:IntsAt w a3 n3 h)(hnl:nl≤maxLen)(hcl:CatsAt w al nl fl gl):
 Calls Tryz.prog 76 #[.agg #[.int .i64 id,.int .i64 b1,.slice a1 n1 k1,.int .i64 b2,.slice a2 n2 k2,.slice a3 n3 k3,.int .i64 made],.agg #[.int .i64 bl,.slice al nl kl]] w fun e w'=>e= .returned (.bool (reachF id made b1 n1 f1 g1 b2 n2 f2 g2 n3 h bl nl fl gl))∧Below w.heap.size w w':=by
 have hb0:=((Below.refl _ w).alloc (Nat.le_refl _) (.cells #[.int .i64 id,.int .i64 b1,.slice a1 n1 k1,.int .i64 b2,.slice a2 n2 k2,.slice a3 n3 k3,.int .i64 made] 75)).alloc (by simp) (.cells #[.int .i64 bl,.slice al nl kl] 30);have yT:Blk ((w.alloc (.cells #[.int .i64 id,.int .i64 b1,.slice a1 n1 k1,.int .i64 b2,.slice a2 n2 k2,.slice a3 n3 k3,.int .i64 made] 75)).alloc (.cells #[.int .i64 bl,.slice al nl kl] 30)) w.heap.size (.cells #[.int .i64 id,.int .i64 b1,.slice a1 n1 k1,.int .i64 b2,.slice a2 n2 k2,.slice a3 n3 k3,.int .i64 made] 75):=(Blk.new w _).alloc _;have yL:Blk ((w.alloc (.cells #[.int .i64 id,.int .i64 b1,.slice a1 n1 k1,.int .i64 b2,.slice a2 n2 k2,.slice a3 n3 k3,.int .i64 made] 75)).alloc (.cells #[.int .i64 bl,.slice al nl kl] 30)) (w.heap.size+1) (.cells #[.int .i64 bl,.slice al nl kl] 30):=by have:=Blk.new (w.alloc (.cells #[.int .i64 id,.int .i64 b1,.slice a1 n1 k1,.int .i64 b2,.slice a2 n2 k2,.slice a3 n3 k3,.int .i64 made] 75)) (.cells #[.int .i64 bl,.slice al nl kl] 30);simpa using this
 go_enter Tryz.func76,Tryz.ntmps76
 go_wp2_with fail
 refine(implThr_any _ _ _ _ _ _ f1 g1 _ _ _ _ f2 g2 _ _ _ h _ hn1 hn2 hn3 (hc1.below hb0) (hc2.below hb0) (hc3.below hb0)).mono ?_;rintro e w1 ⟨rfl,hb1⟩;have B1:Below w.heap.size w w1:=hb0.trans (hb1.mono (by simp;omega));have xT:=yT.below hb1;have xL:=yL.below hb1;obtain⟨x0,x1,x2,x3,x4,x5,x6⟩:=xT.sevenF;obtain⟨x7,x8⟩:=xL.two;clear yT yL hb0 hb1;by_cases t1:thrOk id made b1 n1 f1 g1 b2 n2 f2 g2 n3 h=true
 ·go_wp2_with fail
  refine(implFlows_any _ _ _ _ f1 g1 _ _ _ h _ _ _ _ fl gl _ hn1 hnl hn3 (hc1.below B1) (hcl.below B1) (hc3.below B1)).mono ?_;rintro e w2 ⟨rfl,hb2⟩;have B2:Below w.heap.size w w2:=B1.trans (hb2.mono B1.size);clear x0 x1 x2 x3 x4 x5 x6 x7 x8 xT xL;go_wp2;go_ret;obtain⟨p1,_,p3⟩:=thrOk_outF t1;exact⟨ret_bool (by simp[flowAll,reachF,t1,p1,p3]),B2⟩
 ·have t1':thrOk id made b1 n1 f1 g1 b2 n2 f2 g2 n3 h=false:=by simpa using t1
  clear t1;go_wp2;go_ret;exact⟨ret_bool (by simp[reachF,t1']),B1⟩
open Go Go.BigFrame
def Pg(B b:Nat)(L:List UInt8)(w:World):Prop:=Lib.IsBuilder 71 5 B b (Lib.byteCells L) w
theorem Pg.below{B b:Nat}{L:List UInt8}{w w':World}(h:Pg B b L w)(hb:Below w.heap.size w w'):Pg B b L w':=isBuilder_below h hb
theorem Pg.lt{B b:Nat}{L:List UInt8}{w:World}(h:Pg B b L w):b<w.heap.size:=isBuilder_lt h
theorem Pg.ge{B b:Nat}{L:List UInt8}{w:World}(h:Pg B b L w):B≤b:=by
 rcases h with h|h
 ·exact h.1
 ·exact h.1
theorem Pg.new(w:World):Pg w.heap.size w.heap.size [] (w.alloc (.cells #[.pointer none,.slice none 0 0] 71)):=
 Or.inl ⟨Nat.le_refl _,.slice none 0 0,blk_alloc_new _ _,World.ownsRow_nil _ _ _ _,by simp[Value.ownBlock]⟩
def wordsL(ws:List ByteArray):List (List UInt8):=ws.map (·.data.toList)
theorem line_any(B b:Nat)(L:List UInt8)(g c:Nat)(ws:List ByteArray)(w:World)(hP:Pg B b L w)(hg:g<w.heap.size)(hcells:∀(j:Nat) x,ws[j]? =some x→w.cell? ⟨g,0+j,none⟩=some (.string x))
 (hn:ws.length≤1000)(hcap:ws.length≤c)(hl:L.length≤10000000)(hj:(lineL (wordsL ws)).length≤100000):
 Calls Tryz.prog 33 #[.pointer (some ⟨b,0,none⟩),.slice (some ⟨g,0,none⟩) ws.length c] w fun e w'=>e= .returned (.tuple #[])∧Pg B b (L++lineL (wordsL ws)) w'∧Below B w w'∧Keeps5 b w w':=by
 have EJ:∀args w,(callFunc 74 args).run Tryz.prog w= .ok (.enter 74 args) w:=enters_of Tryz.func74 (by kernel_rfl) rfl;have EW:∀args w,(callFunc 73 args).run Tryz.prog w= .ok (.enter 73 args) w:=enters_of Tryz.func73 (by kernel_rfl) rfl;have jl:(Lib.join (wordsL ws) [32]).length+1=(lineL (wordsL ws)).length:=by simp[lineL]
 have PJ:Hid (Calls Tryz.prog 74 #[.slice (some ⟨g,0,none⟩) ws.length c,.string (ByteArray.mk #[32])] w.drew fun e w'=>∃v,e= .returned v∧v= .string ⟨(Lib.join (wordsL ws) [32]).toArray⟩∧Below w.drew.heap.size w.drew w'):=hid ((Tryz.strings_Join g 0 c ws (ByteArray.mk #[32]) w.drew hcells hg (by omega) hcap (by show(Lib.join (wordsL ws) [32]).length≤_;omega)).mono fun e w' ⟨h1,h2⟩=>⟨_,h1,rfl,h2⟩);have HP:=hid hP;have ZZ:(⟨(Lib.join (wordsL ws) [32]).toArray⟩:ByteArray).size≤100000:=by rw[mk_size,List.size_toArray];omega
 have EQ:Hid ((⟨(Lib.join (wordsL ws) [32]).toArray⟩:ByteArray)++ByteArray.mk #[10]=⟨(lineL (wordsL ws)).toArray⟩):=hid (by
  have e:ByteArray.mk #[10]=⟨[10].toArray⟩:=rfl;rw[e,bytes_app];rfl)
 have PW:Hid (∀W,Below w.heap.size w W→Calls Tryz.prog 73 #[.pointer (some ⟨b,0,none⟩),.string ((⟨(Lib.join (wordsL ws) [32]).toArray⟩:ByteArray)++ByteArray.mk #[10])] W fun e w'=>∃v,e= .returned v∧Pg B b (L++lineL (wordsL ws)) w'∧Below B w w'∧Keeps5 b w w'):=hid (fun W hW=>by
  rw[EQ.out];have hp:=HP.out.below hW;have hw:=writeString_T 71 Tryz.lies80 (by decide) B b (Lib.byteCells L) ⟨(lineL (wordsL ws)).toArray⟩ W hp (by rw[Lib.byteCells_length,mk_size,List.size_toArray];omega) (Nat.le_of_lt (Nat.lt_of_le_of_lt hp.ge hp.lt));refine hw.mono ?_;rintro e w' ⟨rfl,h1,h2,h3⟩;refine⟨_,rfl,?_,(hW.mono (Nat.le_of_lt (Nat.lt_of_le_of_lt HP.out.ge HP.out.lt))).trans h2,fun P cs T hT hPb hh=>h3 P cs T hT hPb ((hW.block P (Array.getElem?_eq_some_iff.1 hh).1).trans hh)⟩;unfold Pg;rw[←byte_app];exact h1)
 clear hP hcells jl hj;generalize (⟨(Lib.join (wordsL ws) [32]).toArray⟩:ByteArray)=J at *;go_enter Tryz.func33,Tryz.ntmps33
 refine wp_region_G 7 (fun _=>True) (by kernel_rfl) ?_;refine tq 0 4 (.pointer (some ⟨b,0,none⟩)) trivial ?_;simp only[ap,List.set];refine tq 1 5 (.pointer (some ⟨b,0,none⟩)) trivial ?_;simp only[ap,List.set];refine tq 2 6 (.pointer (some ⟨b,0,none⟩)) trivial ?_;simp only[ap,List.set];refine tq 3 7 (.slice (some ⟨g,0,none⟩) ws.length c) trivial ?_;simp only[ap,List.set];refine wpAnyG_one (i:=4) (by kernel_rfl) rfl ?_;intro K hK;refine step_call2g (by rfl) 74 _ _ _ (by rfl) EJ _ _ (by rfl) (by rfl) (some 8) (by rfl) _ PJ.out ?_;rintro v w1 ⟨rfl,h1⟩;refine hK.out _ _ (fun _=>trivial) ?_;clear hK K;simp only[ap,List.set];refine tq 5 9 (.string (J++ByteArray.mk #[10])) trivial ?_ (hy:=fun W h=>by go_simp;omega);simp only[ap,List.set];have V1:Below w.heap.size w w1:=then_ (Below.refl _ w).drew h1;refine wpAnyG_one (i:=6) (by kernel_rfl) rfl ?_;intro K hK;refine step_call2g (by rfl) 73 _ _ _ (by rfl) EW _ _ (by rfl) (by rfl) (some 10) (by rfl) _ (PW.out w1 V1) ?_;rintro v w2 ⟨p2,b2,k2⟩;refine hK.out _ _ (fun _=>trivial) ?_;clear hK K;refine wpAnyG_done (by kernel_rfl) ?_ _;exact bodyPost_end (v:= .tuple #[]) (by simp[results,Tryz.results33,go_sem]) rfl ⟨rfl,p2,b2,k2⟩
theorem wpList_append_strs{ops:Array Oper}{rest:List Oper}{o:Oper}{a:Act}{Q:Exit→Act→World→Prop}(w:World)(hgd:o.guard=none)(s x:Operand)
 (ho:o.op= .call {callee:= .builtin .append,args:=#[s,x],argTypes:=#[40,40]})
 (B:Nat)(v:Value)(l:List ByteArray)(hs:a.eval s=v)(hown:OwnS w B v l)(ad:Option Addr)(m c:Nat)(l':List ByteArray)(hx:a.eval x= .slice ad m c)(hm':l'.length=m)(hc:LiesC w ad m (scells l'))
 (hm:l.length+m≤100000)(h0:0<l.length)(hB:B≤w.heap.size)
 (h:∀g c' w',OwnS w' B (.slice (some ⟨g,0,none⟩) (l++l').length c') (l++l')→w.grownBy w' v.ownBlock→wpList Tryz.prog ops Q rest (a.put o.dst (.slice (some ⟨g,0,none⟩) (l++l').length c')) w'):wpList Tryz.prog ops Q (o::rest) a w:=by
 subst hm';refine wpList_plain hgd fun _ hK=>wp_append_gen Tryz.underlying40 Tryz.info9 rfl (by omega) w s x ho B v l.length _ hs hown ad l'.length c _ hx (by simp[scells]) hc (fun u hu=>by obtain⟨y,_,rfl⟩:=List.mem_map.1 hu;rfl) (by omega) (by omega) hB fun a' c' w' h2 h3 _=>hK _ _ ?_;have e1:scells l++scells l'=scells (l++l'):=by simp[scells]
 have e2:l.length+l'.length=(l++l').length:=by simp
 rw[e1]at h2;obtain⟨g,cap,hv,_,_⟩:=World.ownsRow.form h2 (by omega);simp only[Value.slice.injEq]at hv;obtain⟨rfl,_,_⟩:=hv;rw[e2]at h2 ⊢;exact h g c' w' h2 h3
theorem OwnS.cells{w:World}{B g c:Nat}{l:List ByteArray}(h:OwnS w B (.slice (some ⟨g,0,none⟩) l.length c) l):g<w.heap.size∧l.length≤c∧∀(j:Nat) x,l[j]? =some x→w.cell? ⟨g,0+j,none⟩=some (.string x):=by
 refine⟨(World.ownsRow.lt h g rfl).2,?_,fun j x hx=>?_⟩
 ·rcases h.2 with⟨hv,_⟩|⟨g',cap,cur,hv,_,hh,hnc,_⟩
  ·simp at hv
  ·simp only[Value.slice.injEq]at hv;obtain⟨_,_,rfl⟩:=hv;exact hnc
 ·have hj:j<l.length:=(List.getElem?_eq_some_iff.1 hx).1;have:=World.ownsRow.cellAt h (0+j) (by simpa using hj);rw[this,Nat.zero_add];simp only[scells,List.getElem?_map,hx,Option.map_some]
def decs(ns:List Int):List ByteArray:=ns.map fun x=>⟨(dc x).toArray⟩
theorem decs_any(x:IntL)(w:World)(hx:x.at w)(hn:x.n≤1000)(hr:∀i,i<x.n→small (x.h i))(ht:Tab w):
 Calls Tryz.prog 77 #[x.val] w fun e w'=>∃a c,e= .returned (.slice a x.n c)∧LiesC w' a x.n (scells (decs (numsT x)))∧Below w.heap.size w w':=by
 obtain⟨a0,n,cap,f⟩:=x;simp only at hr hn;have HC:=hid hx.2;simp only at HC;unfold IntL.val numsT;simp only;have HR:=hid hr;have HT:=hid ht;clear hx hr ht;go_enter Tryz.func77,Tryz.ntmps77
 go_wp2;go_loopw [3,8] (fun v i wr=>∃k:Nat,k≤n∧i= .int .i64 k∧(∃a c,v= .slice a k c)∧OwnS wr w.heap.size v ((List.range k).map fun i=>decB (f i))∧Below w.heap.size w wr) (fun _ i _=>n-(intOf i).toNat)
 case atStart=>exact⟨0,Nat.zero_le _,rfl,⟨_,_,rfl⟩,World.ownsRow_nil _ _ _ _,Below.refl _ _⟩
 case round=>
  obtain⟨k,hk,rfl,⟨a,c,rfl⟩,hO,hB⟩:=hrel;have OO:=hid hO;clear hO;by_cases hlt:k<n
  ·obtain⟨b,off,rfl,hb,hc⟩:=HC.out (by omega);have c1:wr.cell? ⟨b,off+k,none⟩=some (.int .i64 (f k)):=(hB.cell (p:=⟨b,off+k,none⟩) hb).trans (hc k hlt);have r1:=HR.out k hlt;have D:=hid (dec_any (f k) wr r1.1 (by have:=r1.2;omega) (HT.out.below hB));have i1:(k:Int)<(n:Int):=(by omega);have EX:Hid (((List.range k).map fun i=>decB (f i))++[decB (f k)]=(List.range (k+1)).map fun i=>decB (f i)):=(by show _=_;rw[List.range_succ,List.map_append];rfl);have lm:((List.range k).map fun i=>decB (f i)).length=k:=(by simp);clear hc r1;generalize ((List.range k).map fun i=>decB (f i))=L at *;generalize decB (f k)=X at *;have lm2:L.length≤2000000:=(by omega);go_wp2_with(first
    |(go_at_call 75;refine D.out.mono ?_;rintro e w3 ⟨rfl,h3⟩;have HO3:=hid ((OO.out.below h3).alloc (.cells #[.string X] 9));have HL3:=hid (one_str (w:=w3) X);have sz3:=hid (Nat.le_trans (then_ hB h3).size (show w3.heap.size≤(w3.alloc (.cells #[.string X] 9)).heap.size by rw[World.size_alloc];exact Nat.le_succ _)))
    |(at_builtin;refine wpList_append_str _ rfl _ _ rfl w.heap.size _ L rfl HO3.out _ 1 X rfl HL3.out lm2 sz3.out ?_;intro g4 c4 w4 O4 hg4;have OX4:=hid O4;have GX4:=hid hg4;clear O4 hg4))
   have B3:=then_ hB h3;have B4:Below w.heap.size w w4:=(B3.alloc B3.size (.cells #[.string X] 9)).trans (below_grown GX4.out sz3.out (fun j hj=>(World.ownsRow.lt HO3.out j hj).1));have el:(L++[X]).length=k+1:=(by simp[lm]);have OF:=OX4.out;rw[el,EX.out]at OF;exact⟨⟨k+1,by omega,rfl,⟨_,c4,rfl⟩,OF,B4⟩,by simp[intOf];omega⟩
  ·have ek:k=n:=(by omega);subst ek;have e5:((List.range k).map fun i=>decB (f i))=decs ((List.range k).map f):=(by simp[decs,decB,dc,Function.comp_def]);have el:((List.range k).map fun i=>decB (f i)).length=k:=(by simp);have LC:LiesC wr a k (scells (decs ((List.range k).map f))):=by
    rw[←e5];have:=OO.out;unfold OwnS at this;rw[el]at this;exact LiesC.own this
   have HLC:=hid LC;clear LC e5 el OO;go_wp2;go_ret;exact⟨a,c,rfl,HLC.out,hB⟩
theorem dec_i(x:Int)(w:World)(h:small x)(ht:Tab w):Calls Tryz.prog 75 #[.int .i64 x] w fun e w'=>e= .returned (.string (⟨(dc x).toArray⟩:ByteArray))∧Below w.heap.size w w':=dec_any x w h.1 (by have:=h.2;omega) ht
theorem txt_i(b:Int)(c:CatL)(w:World)(hc:c.at w)(h:labOk b c.n c.f c.g=true)(ht:Tab w):Calls Tryz.prog 34 #[.agg #[.int .i64 b,c.val]] w fun e w'=>e= .returned (.string (⟨(lb b c).toArray⟩:ByteArray))∧Below w.heap.size w w':=by
 have:=implText_any b c.a c.n c.k c.f c.g w hc.1 hc.2 ht;rw[ltext,if_pos h]at this;exact this
theorem own5(w:World)(B:Nat)(hb:B≤w.heap.size)(x0 x1 x2 x3 x4:ByteArray):OwnS (w.alloc (.cells #[.string x0,.string x1,.string x2,.string x3,.string x4] 9)) B (.slice (some ⟨w.heap.size,0,none⟩) 5 5) [x0,x1,x2,x3,x4]:=
 ⟨rfl,.inr ⟨w.heap.size,5,_,rfl,hb,blk_alloc_new _ _,Nat.le_refl _,by unfold maxLen;omega,rfl,rfl⟩⟩
theorem own6(w:World)(B:Nat)(hb:B≤w.heap.size)(x0 x1 x2 x3 x4 x5:ByteArray):OwnS (w.alloc (.cells #[.string x0,.string x1,.string x2,.string x3,.string x4,.string x5] 9)) B (.slice (some ⟨w.heap.size,0,none⟩) 6 6) [x0,x1,x2,x3,x4,x5]:=
 ⟨rfl,.inr ⟨w.heap.size,6,_,rfl,hb,blk_alloc_new _ _,Nat.le_refl _,by unfold maxLen;omega,rfl,rfl⟩⟩
theorem own2(w:World)(B:Nat)(hb:B≤w.heap.size)(x0 x1:ByteArray):OwnS (w.alloc (.cells #[.string x0,.string x1] 9)) B (.slice (some ⟨w.heap.size,0,none⟩) 2 2) [x0,x1]:=
 ⟨rfl,.inr ⟨w.heap.size,2,_,rfl,hb,blk_alloc_new _ _,Nat.le_refl _,by unfold maxLen;omega,rfl,rfl⟩⟩
theorem Keeps5.after{b:Nat}{w a c:World}(h:Below w.heap.size w a)(k:Keeps5 b a c):Keeps5 b w c:=fun P cs T hT hP hh=>k P cs T hT hP ((h.block P (Array.getElem?_eq_some_iff.1 hh).1).trans hh)
theorem Keeps5.trans{b:Nat}{w a c:World}(h:Keeps5 b w a)(k:Keeps5 b a c):Keeps5 b w c:=fun P cs T hT hP hh=>k P cs T hT hP (h P cs T hT hP hh)
theorem pthread_any(B b:Nat)(L:List UInt8)(t:ThrV)(w:World)(hP:Pg B b L w)(ht:t.at w)(hok:thrOkV t=true)(tab:Tab w)(hl:L.length≤9000000):
 Calls Tryz.prog 36 #[.pointer (some ⟨b,0,none⟩),t.val] w fun e w'=>e= .returned (.tuple #[])∧Pg B b (L++thrX t) w'∧Below B w w'∧Keeps5 b w w':=by
 have ED:∀args w,(callFunc 75 args).run Tryz.prog w= .ok (.enter 75 args) w:=enters_of Tryz.func75 (by kernel_rfl) rfl;have EX:∀args w,(callFunc 34 args).run Tryz.prog w= .ok (.enter 34 args) w:=enters_of Tryz.func34 (by kernel_rfl) rfl;have b0:Below w.heap.size w (w.alloc (.cells #[.int .i64 t.id,.int .i64 t.b1,.slice t.c1.a t.c1.n t.c1.k,.int .i64 t.b2,.slice t.c2.a t.c2.n t.c2.k,.slice t.own.a t.own.n t.own.k,.int .i64 t.made] 75)):=(Below.refl _ w).alloc (Nat.le_refl _) _;have A0:=Blk.new w (.cells #[.int .i64 t.id,.int .i64 t.b1,.slice t.c1.a t.c1.n t.c1.k,.int .i64 t.b2,.slice t.c2.a t.c2.n t.c2.k,.slice t.own.a t.own.n t.own.k,.int .i64 t.made] 75);have XL:=hid (thrX_len hok);obtain⟨p1,p2,p3,p4,p5⟩:=thr_small hok;have T0:=hid (ht.below b0);have HTab:=hid (tab.below b0);have ow:∀i,i<t.own.n→small (t.own.h i):=fun i hi=>(own_small p5).2 _ (List.mem_map.2 ⟨i,List.mem_range.2 hi,rfl⟩);have on10:=(own_small p5).1;have HP:=hid hP;unfold ThrV.val CatL.val IntL.val;clear ht hok tab hP;go_enter Tryz.func36,Tryz.ntmps36
 go_wp2;generalize hV:w.alloc (.cells #[.int .i64 t.id,.int .i64 t.b1,.slice t.c1.a t.c1.n t.c1.k,.int .i64 t.b2,.slice t.c2.a t.c2.n t.c2.k,.slice t.own.a t.own.n t.own.k,.int .i64 t.made] 75)=V at *;have PD1:Hid (∀W,Below V.heap.size V W→Calls Tryz.prog 75 #[.int .i64 t.id] W fun e w'=>∃v,e= .returned v∧v= .string (⟨(dc t.id).toArray⟩:ByteArray)∧Below W.heap.size W w'):=hid (fun W hW=>(dec_i _ W p1 (HTab.out.below hW)).mono fun e w' ⟨h1,h2⟩=>⟨_,h1,rfl,h2⟩);have PD2:Hid (∀W,Below V.heap.size V W→Calls Tryz.prog 75 #[.int .i64 t.made] W fun e w'=>∃v,e= .returned v∧v= .string (⟨(dc t.made).toArray⟩:ByteArray)∧Below W.heap.size W w'):=hid (fun W hW=>(dec_i _ W p2 (HTab.out.below hW)).mono fun e w' ⟨h1,h2⟩=>⟨_,h1,rfl,h2⟩);have PX1:Hid (∀W,Below V.heap.size V W→Calls Tryz.prog 34 #[.agg #[.int .i64 t.b1,.slice t.c1.a t.c1.n t.c1.k]] W fun e w'=>∃v,e= .returned v∧v= .string (⟨(lb t.b1 t.c1).toArray⟩:ByteArray)∧Below W.heap.size W w'):=hid (fun W hW=>(txt_i _ t.c1 W (T0.out.below hW).1 p3 (HTab.out.below hW)).mono fun e w' ⟨h1,h2⟩=>⟨_,h1,rfl,h2⟩);have PX2:Hid (∀W,Below V.heap.size V W→Calls Tryz.prog 34 #[.agg #[.int .i64 t.b2,.slice t.c2.a t.c2.n t.c2.k]] W fun e w'=>∃v,e= .returned v∧v= .string (⟨(lb t.b2 t.c2).toArray⟩:ByteArray)∧Below W.heap.size W w'):=hid (fun W hW=>(txt_i _ t.c2 W (T0.out.below hW).2.1 p4 (HTab.out.below hW)).mono fun e w' ⟨h1,h2⟩=>⟨_,h1,rfl,h2⟩);have PO:Hid (∀W,Below V.heap.size V W→Calls Tryz.prog 77 #[.slice t.own.a t.own.n t.own.k] W fun e w'=>∃a c,e= .returned (.slice a t.own.n c)∧LiesC w' a t.own.n (scells (decs (numsT t.own)))∧Below W.heap.size W w'):=hid (fun W hW=>decs_any t.own W (T0.out.below hW).2.2 (by omega) ow (HTab.out.below hW));have WL:Hid (lineL (wordsL ([ByteArray.mk #[116,104,114,101,97,100],(⟨(dc t.id).toArray⟩:ByteArray),(⟨(lb t.b1 t.c1).toArray⟩:ByteArray),(⟨(lb t.b2 t.c2).toArray⟩:ByteArray),(⟨(dc t.made).toArray⟩:ByteArray)]++decs (numsT t.own)))=thrX t):=hid (by
  unfold thrX;congr 1;simp[wordsL,decs,thrW,Function.comp_def])
 have HA:Hid (∀W,Below V.heap.size V W→Blk W w.heap.size (.cells #[.int .i64 t.id,.int .i64 t.b1,.slice t.c1.a t.c1.n t.c1.k,.int .i64 t.b2,.slice t.c2.a t.c2.n t.c2.k,.slice t.own.a t.own.n t.own.k,.int .i64 t.made] 75)):=hid (fun W h=>A0.below h);have dl:(decs (numsT t.own)).length=t.own.n:=by simp[decs,numsT]
 have B0:=hid b0;have szV:w.heap.size<V.heap.size:=A0.lt;clear p1 p2 p3 p4 p5 ow A0 b0 hV;generalize (⟨(dc t.id).toArray⟩:ByteArray)=D1 at *;generalize (⟨(dc t.made).toArray⟩:ByteArray)=D2 at *;generalize (⟨(lb t.b1 t.c1).toArray⟩:ByteArray)=X1 at *;generalize (⟨(lb t.b2 t.c2).toArray⟩:ByteArray)=X2 at *;have V0:Below V.heap.size V V.drew:=(Below.refl _ V).drew;refine wp_region_G 14 (fun W=>Below V.heap.size V W) (by kernel_rfl) ?_;refine tq 0 5 (.pointer (some ⟨w.heap.size,0,none⟩)) V0 ?_;simp only[ap,List.set];refine tq 1 6 (.int .i64 t.id) V0 ?_ (hy:=fun W h=>by obtain⟨q0,q1,q2,q3,q4,q5,q6⟩:=(HA.out W h).sevenF;go_simp);simp only[ap,List.set];refine tq 3 8 (.pointer (some ⟨w.heap.size,1,none⟩)) V0 ?_;simp only[ap,List.set];refine tq 4 9 (.agg #[.int .i64 t.b1,.slice t.c1.a t.c1.n t.c1.k]) V0 ?_ (hy:=fun W h=>by obtain⟨q0,q1,q2,q3,q4,q5,q6⟩:=(HA.out W h).sevenF;go_simp);simp only[ap,List.set];refine tq 6 11 (.pointer (some ⟨w.heap.size,3,none⟩)) V0 ?_;simp only[ap,List.set];refine tq 7 12 (.agg #[.int .i64 t.b2,.slice t.c2.a t.c2.n t.c2.k]) V0 ?_ (hy:=fun W h=>by obtain⟨q0,q1,q2,q3,q4,q5,q6⟩:=(HA.out W h).sevenF;go_simp);simp only[ap,List.set];refine tq 9 14 (.pointer (some ⟨w.heap.size,6,none⟩)) V0 ?_;simp only[ap,List.set];refine tq 10 15 (.int .i64 t.made) V0 ?_ (hy:=fun W h=>by obtain⟨q0,q1,q2,q3,q4,q5,q6⟩:=(HA.out W h).sevenF;go_simp);simp only[ap,List.set];refine wpAnyG_one (i:=2) (by kernel_rfl) rfl ?_;intro K hK;refine step_call1g (by rfl) 75 _ _ (by rfl) ED _ (by rfl) (some 7) (by rfl) _ (PD1.out _ V0) ?_;rintro v w1x ⟨rfl,h1⟩;have V1:=then_ V0 h1;refine hK.out _ _ (fun _=>V1) ?_;clear hK K;simp only[ap,List.set];refine wpAnyG_one (i:=5) (by kernel_rfl) rfl ?_;intro K hK;refine step_call1g (by rfl) 34 _ _ (by rfl) EX _ (by rfl) (some 10) (by rfl) _ (PX1.out _ V1) ?_;rintro v w2x ⟨rfl,h2⟩;have V2:=then_ V1 h2;refine hK.out _ _ (fun _=>V2) ?_;clear hK K;simp only[ap,List.set];refine wpAnyG_one (i:=8) (by kernel_rfl) rfl ?_;intro K hK;refine step_call1g (by rfl) 34 _ _ (by rfl) EX _ (by rfl) (some 13) (by rfl) _ (PX2.out _ V2) ?_;rintro v w3x ⟨rfl,h3⟩;have V3:=then_ V2 h3;refine hK.out _ _ (fun _=>V3) ?_;clear hK K;simp only[ap,List.set];refine wpAnyG_one (i:=11) (by kernel_rfl) rfl ?_;intro K hK;refine step_call1g (by rfl) 75 _ _ (by rfl) ED _ (by rfl) (some 16) (by rfl) _ (PD2.out _ V3) ?_;rintro v w4x ⟨rfl,h4⟩;have V4:=then_ V3 h4;refine hK.out _ _ (fun _=>V4) ?_;clear hK K;simp only[ap,List.set];refine wpAnyG_one (i:=12) (by kernel_rfl) rfl ?_;intro K hK;go_simp;have V5:=V4.alloc V4.size (.cells #[.string (ByteArray.mk #[116,104,114,101,97,100]),.string D1,.string X1,.string X2,.string D2] 9);refine hK.out _ _ (fun _=>V5) ?_;clear hK K;refine tq 13 4 (.slice (some ⟨w4x.heap.size,0,none⟩) 5 5) V5 ?_;simp only[ap,List.set];refine wpAnyG_done (by kernel_rfl) ?_ _;have OW:=hid (own5 w4x w.heap.size (Nat.le_trans (Nat.le_of_lt szV) V4.size) (ByteArray.mk #[116,104,114,101,97,100]) D1 X1 X2 D2);have HV:=hid V5;generalize hU:w4x.alloc (.cells #[.string (ByteArray.mk #[116,104,114,101,97,100]),.string D1,.string X1,.string X2,.string D2] 9)=U at *;have V4s:=V4.size;clear hU PD1 PD2 PX1 PX2 V0 V1 V2 V3 V4 V5 h1 h2 h3 h4;obtain⟨x0,x1,x2,x3,x4,x5,x6⟩:=(HA.out U HV.out).sevenF;go_wp2_with fail
 refine(PO.out U HV.out).mono ?_;rintro e w6 ⟨a6,c6,rfl,l6,h6⟩;have O6:=hid (OW.out.below h6);have L6:=hid l6;have S6:=hid (Nat.le_trans (Nat.le_trans (Nat.le_of_lt szV) HV.out.size) h6.size);have N6:=hid (show([ByteArray.mk #[116,104,114,101,97,100],D1,X1,X2,D2]:List ByteArray).length+t.own.n≤100000 by simp;omega);clear l6;go_wp2_with(at_builtin;refine wpList_append_strs _ rfl _ _ rfl w.heap.size _ [ByteArray.mk #[116,104,114,101,97,100],D1,X1,X2,D2] rfl O6.out a6 t.own.n c6 (decs (numsT t.own)) rfl dl L6.out N6.out (Nat.zero_lt_succ _) S6.out ?_;intro g7 c7 w7 o7 gr7;have O7:=hid o7;have G7:=hid gr7;clear o7 gr7)
 have B7:Below w.heap.size w w7:=(then_ B0.out (then_ HV.out h6)).trans (below_grown G7.out S6.out (fun j hj=>(World.ownsRow.lt O6.out j hj).1));obtain⟨g1,g2,g3⟩:=O7.out.cells;have CL:=hid (line_any B b L g7 c7 ([ByteArray.mk #[116,104,114,101,97,100],D1,X1,X2,D2]++decs (numsT t.own)) w7 (HP.out.below B7) g1 g3 (by simp[dl];omega) g2 (by omega) (by rw[WL.out];have:=XL.out;omega));rw[WL.out]at CL;have en:([ByteArray.mk #[116,104,114,101,97,100],D1,X1,X2,D2]++decs (numsT t.own)).length=t.own.n+1+1+1+1+1:=by rw[List.length_append,dl];simp only[List.length_cons,List.length_nil];omega
 rw[en]at CL;have hge:=Nat.le_of_lt (Nat.lt_of_le_of_lt HP.out.ge HP.out.lt);have HB7:=hid B7;clear en g1 g2 g3 x0 x1 x2 x3 x4 x5 x6 B7 OW O6 L6 N6 O7 G7 h6;go_wp2_with fail
 refine CL.out.mono ?_;rintro e w8 ⟨rfl,p8,b8,k8⟩;go_wp2;exact bodyPost_end (v:= .tuple #[]) (by simp[results,Tryz.results36,go_sem]) rfl ⟨rfl,p8,(HB7.out.mono hge).trans b8,k8.after HB7.out⟩
end Go.Proofs.YtbacmamplkdgaaaGreatDoor
