import Derived.Test.YtallmkehpfaaeaaGreatDoorFB
import Derived.Test.YtallmkehpfaaeaaGreatDoorZ0
import Derived.RangeFuncFrom
import Derived.Test.YtallmkehpfaaeaaGreatDoorZ33
import Derived.Test.YtallmkehpfaaeaaGreatDoorZ10
import Derived.Deep.CutBlock
import Derived.Test.YtallmkehpfaaeaaGreatDoorProg
import Derived.Shelf.SlicesG.Delete
import Derived.Shelf.SlicesG.CompactI
import Derived.Ground.SlgnProg
import Derived.Test.YtallmkehpfaaeaaGreatDoorZ11
import Derived.Sort.OwnSortedInts
import Derived.Test.YtallmkehpfaaeaaGreatDoorZ13
import Derived.Test.YtallmkehpfaaeaaGreatDoorZ14
import Derived.Test.YtallmkehpfaaeaaGreatDoorZ5
import Derived.Test.YtallmkehpfaaeaaGreatDoorZ18
import Derived.Test.YtallmkehpfaaeaaGreatDoorZ1
import Derived.Shelf.Strings.OnBuilder
import Derived.Shelf.Strings.Builder1
import Derived.Shelf.Strings.BuilderF
import Derived.Shelf.Strconv.Itoa4
import Derived.Shelf.Strconv.Clone
import Derived.Shelf.LaysM
import Derived.Shelf.Lays
import Derived.Ground.NamesProg
set_option maxRecDepth 100000
set_option maxHeartbeats 4000000
namespace Go.Proofs.YtallmkehpfaaeaaGreatDoor
open Go.RowKit Go.Deep Go.Maps Go.Shelf
attribute [local go_sem] Oper.semAt_some
theorem index_any(a:Option Addr)(n cap:Nat)(h:Nat→Int)(x:Int)(w:World)(hn:n≤maxLen)(hc:IntsAt w a n h):
 Calls Tryz.prog 99 #[.slice a n cap,.int .i64 x] w fun e w'=>∃r:Int,e= .returned (.int .i64 r)∧(decide (0≤r)=hasB n h x)∧w'=w:=by
 unfold maxLen at hn;go_enter Tryz.func99,Tryz.ntmps99
 go_wp2;go_loop [8] (fun i=>∃k:Nat,k≤n∧i= .int .i64 k∧(∀j,j<k→h j≠x)) (fun i=>n-(intOf i).toNat)
 case atStart=>exact⟨0,Nat.zero_le _,rfl,fun j hj=>by omega⟩
 case round=>
  obtain⟨k,hk,rfl,hall⟩:=hrel;have HA:Hid (∀j,j<k→h j≠x):=hall;clear hall;by_cases hlt':k<n
  ·obtain⟨b,off,rfl,hlt,hcc⟩:=hc (by omega);have g1:=hcc k hlt';clear hcc hc;by_cases t:(x==h k)=true
   ·go_wp2;go_ret;exact⟨_,rfl,by rw[hasB_yes hlt' (by simpa using(beq_iff_eq.1 t).symm)];simp,rfl⟩
   ·have t':(x==h k)=false:=(by simpa using t);clear t;go_wp2;go_round;case rel=>
     refine⟨k+1,by omega,by go_num,fun j hj=>?_⟩;by_cases e:j=k
     ·subst e;intro q;rw[q]at t';simp at t'
     ·exact HA.out j (by omega)
    case measure=>simp[intOf];omega
  ·clear hc;go_wp2;go_ret;have e:k=n:=(by omega);subst e;exact⟨_,rfl,by rw[hasB_no HA.out];simp,rfl⟩
theorem contains_any(a:Option Addr)(n cap:Nat)(h:Nat→Int)(x:Int)(w:World)(hn:n≤maxLen)(hc:IntsAt w a n h):
 Calls Tryz.prog 57 #[.slice a n cap,.int .i64 x] w fun e w'=>e= .returned (.bool (hasB n h x))∧w'=w:=by
 go_enter Tryz.func57,Tryz.ntmps57
 go_wp2_with(go_at_call 99;refine(index_any _ _ _ h _ _ hn hc).mono ?_;rintro e w' ⟨r,rfl,hr,rfl⟩)
 all_goals
  go_ret;refine⟨ret_bool ?_,rfl⟩;rw[←hr];first|done|(simp;done)|(simp;omega)
theorem catsAbove_any(ba:Int)(aa:Option Addr)(na ka:Nat)(bb:Int)(ab:Option Addr)(nb kb:Nat)(w:World):
 Calls Tryz.prog 56 #[.agg #[.int .i64 ba,.slice aa na ka],.agg #[.int .i64 bb,.slice ab nb kb]] w fun e w'=>e= .returned (.func (.func 95) #[] #[.pointer (some ⟨w.heap.size,0,none⟩),.pointer (some ⟨w.heap.size+1,0,none⟩)])∧
  w'=(w.alloc (.cells #[.int .i64 ba,.slice aa na ka] 30)).alloc (.cells #[.int .i64 bb,.slice ab nb kb] 30):=by
 go_enter Tryz.func56,Tryz.ntmps56
 go_wp2;go_ret;exact⟨rfl,rfl⟩
def flowAll(ba:Int)(na:Nat)(fa ga:Nat→Int)(no:Nat)(ho:Nat→Int)(bb:Int)(nb:Nat)(fb gb:Nat→Int):Bool:=
 labOk ba na fa ga&&labOk bb nb fb gb&&ownOk no ho&&flowsB ba na fa ga no ho bb nb fb gb
theorem named_of_above{ba:Int}{na:Nat}{fa ga:Nat→Int}{bb:Int}{nb:Nat}{fb gb:Nat→Int}{x:Int}(h0:ba≤bb)(h:levOf bb nb fb gb x<levOf ba na fa ga x):
 ((look fa ga na x).isSome||(look fb gb nb x).isSome)=true:=by
 cases h1:look fa ga na x with
 |some v=>simp
 |none=>
  cases h2:look fb gb nb x with
  |some v=>simp
  |none=>simp[levOf,h1,h2]at h;omega
theorem flows_of_owned{ba:Int}{na:Nat}{fa ga:Nat→Int}{no:Nat}{ho:Nat→Int}{bb:Int}{nb:Nat}{fb gb:Nat→Int}(h0:ba≤bb)
 (h:∀x,aboveB ba na fa ga bb nb fb gb x=true→hasB no ho x=true):flowsB ba na fa ga no ho bb nb fb gb=true:=by
 refine flowsB_mk h0 fun i hi=>?_;unfold letB;by_cases e:levOf bb nb fb gb (glue na fa fb i)<levOf ba na fa ga (glue na fa fb i)
 ·rw[h _ (by unfold aboveB;rw[named_of_above h0 e];simpa using e)];rfl
 ·simp[e]
theorem flows_not_owned{ba:Int}{na:Nat}{fa ga:Nat→Int}{no:Nat}{ho:Nat→Int}{bb:Int}{nb:Nat}{fb gb:Nat→Int}{x:Int}
 (h:aboveB ba na fa ga bb nb fb gb x=true)(ho':hasB no ho x=false):flowsB ba na fa ga no ho bb nb fb gb=false:=by
 unfold aboveB at h;rw[Bool.and_eq_true,Bool.or_eq_true]at h;have hl:letB ba na fa ga no ho bb nb fb gb x=false:=by unfold letB;rw[ho',h.2];rfl
 rcases h.1 with e|e
 ·obtain⟨i,hi,e⟩:=look_isSome e;exact flowsB_at (k:=i) (by omega) (by simp only[glue,hi,if_true];rw[e];exact hl)
 ·obtain⟨i,hi,e⟩:=look_isSome e;exact flowsB_at (k:=na+i) (by omega) (by
   have e1:¬na+i<na:=(by omega);have e2:na+i-na=i:=(by omega);simp only[glue,e1,if_false,e2];rw[e];exact hl)
theorem implFlows_any(ba:Int)(aa:Option Addr)(na ka:Nat)(fa ga:Nat→Int)(ao:Option Addr)(no ko:Nat)(ho:Nat→Int)(bb:Int)(ab:Option Addr)(nb kb:Nat)(fb gb:Nat→Int)(w:World)
 (hna:na≤maxLen)(hnb:nb≤maxLen)(hno:no≤maxLen)(hca:CatsAt w aa na fa ga)(hcb:CatsAt w ab nb fb gb)(hco:IntsAt w ao no ho):
 Calls Tryz.prog 23 #[.agg #[.int .i64 ba,.slice aa na ka],.slice ao no ko,.agg #[.int .i64 bb,.slice ab nb kb]] w fun e w'=>e= .returned (.bool (flowAll ba na fa ga no ho bb nb fb gb))∧Below w.heap.size w w':=by
 have n2:No (.cells #[.int .i64 ba,.slice aa na ka] 30):=⟨⟩;have n4:No (.cells #[.int .i64 bb,.slice ab nb kb] 30):=⟨⟩;have hb0:=((((Below.refl _ w).alloc (Nat.le_refl _) n2).alloc (by simp) (.cells #[.slice ao no ko] 40)).alloc (by simp;omega) n4).alloc (by simp;omega) (.cells #[.bool false] 4);obtain⟨W0,hW0⟩:∃W0,W0=((((w.alloc n2).alloc (.cells #[.slice ao no ko] 40)).alloc n4).alloc (.cells #[.bool false] 4)):=⟨_,rfl⟩;have y1:W0.cell? ⟨w.heap.size,0,none⟩=some (.int .i64 ba):=by rw[hW0];go_simp
 have y2:W0.cell? ⟨w.heap.size,1,none⟩=some (.slice aa na ka):=by rw[hW0];go_simp
 have y3:W0.cell? ⟨w.heap.size+1,0,none⟩=some (.slice ao no ko):=by rw[hW0];go_simp
 have y4:W0.cell? ⟨w.heap.size+1+1,0,none⟩=some (.int .i64 bb):=by rw[hW0];go_simp
 have y5:W0.cell? ⟨w.heap.size+1+1,1,none⟩=some (.slice ab nb kb):=by rw[hW0];go_simp
 have y6:W0.cell? ⟨w.heap.size+1+1+1,0,none⟩=some (.bool false):=by rw[hW0];go_simp
 have y7:W0.frozen? ⟨w.heap.size+1+1+1,0,none⟩=false:=by rw[hW0];go_simp
 have ys:W0.heap.size=w.heap.size+4:=by rw[hW0];simp
 rw[←hW0]at hb0;have n3:Na #[.int .i64 ba,.slice aa na ka]:=⟨⟩;have n5:Na #[.int .i64 bb,.slice ab nb kb]:=⟨⟩;have HW0:Hid (W0=((((w.alloc (.cells n3 30)).alloc (.cells #[.slice ao no ko] 40)).alloc (.cells n5 30)).alloc (.cells #[.bool false] 4))):=hW0;clear hW0;have fin:Hid (∀W1,Below w.heap.size w W1→W1.cell? ⟨w.heap.size+1+1+1,0,none⟩=some (.bool false)→flowAll ba na fa ga no ho bb nb fb gb=false→
  ∀tm:Array Value,tm[6]? =some (.pointer (some ⟨w.heap.size+1+1+1,0,none⟩))→bodyPost Tryz.prog Tryz.f23 (fun e w'=>e= .returned (.bool (flowAll ba na fa ga no ho bb nb fb gb))∧Below w.heap.size w w') .ret {tmps:=tm,defers:=[]} (W1.setCell ⟨w.heap.size+1+1+1,0,none⟩ (.bool false))):=fun W1 hB hc hf tm ht=>by
  have hc5:=World.cell?_setCell_same' W1 ⟨w.heap.size+1+1+1,0,none⟩ (.bool false) (by rw[hc];rfl);refine bodyPost_ret (v:= .bool false) ?_ rfl ⟨by rw[hf],hB.setCell (p:=⟨w.heap.size+1+1+1,0,none⟩) (by dsimp only;omega) _⟩;simp[results,Tryz.results23,go_sem,ht,hc5]
 by_cases good:labOk ba na fa ga=true∧labOk bb nb fb gb=true∧ownOk no ho=true∧ba≤bb
 ·obtain⟨t1,t2,t3,t4⟩:=good;refine(callsIn_wide (n:=4)).1 ?_;refine callsIn_of_wp_marks Tryz.func23 rfl trivial ?_ rfl;simp only[Tryz.ntmps23,List.size_toArray,List.length_cons,List.length_nil,Nat.reduceAdd,Nat.reduceSub,Array.replicate_succ,Array.replicate_zero,List.push_toArray,List.append_toArray,List.nil_append,List.cons_append];gi_wp2_with fail;rw[←HW0.out];refine⟨trivial,?_⟩;refine(callsIn_wide.2 (implOk_any _ _ _ _ fa ga _ hna (hca.below hb0))).mono ?_;rintro e w1 ⟨rfl,hb1⟩;have z1:w.heap.size+1+1+1<w1.heap.size:=by have:=hb1.size;omega
  have B1:Below w.heap.size w w1:=hb0.trans (hb1.mono (by omega));have x1:=(hb1.cell (p:=⟨w.heap.size,0,none⟩) (by dsimp only;omega)).trans y1;have x2:=(hb1.cell (p:=⟨w.heap.size,1,none⟩) (by dsimp only;omega)).trans y2;have x3:=(hb1.cell (p:=⟨w.heap.size+1,0,none⟩) (by dsimp only;omega)).trans y3;have x4:=(hb1.cell (p:=⟨w.heap.size+1+1,0,none⟩) (by dsimp only;omega)).trans y4;have x5:=(hb1.cell (p:=⟨w.heap.size+1+1,1,none⟩) (by dsimp only;omega)).trans y5;have x6:=(hb1.cell (p:=⟨w.heap.size+1+1+1,0,none⟩) (by dsimp only;omega)).trans y6;have x7:=(hb1.frozen (p:=⟨w.heap.size+1+1+1,0,none⟩) (by dsimp only;omega)).trans y7;clear y1 y2 y3 y4 y5 y6 y7 hb1;gi_wp2_with fail;refine⟨trivial,?_⟩;refine(callsIn_wide.2 (implOk_any _ _ _ _ fb gb _ hnb (hcb.below B1))).mono ?_;rintro e w2 ⟨rfl,hb2⟩;have z2:w.heap.size+1+1+1<w2.heap.size:=by have:=hb2.size;omega
  have B2:Below w.heap.size w w2:=B1.trans (hb2.mono (by omega));have u1:=(hb2.cell (p:=⟨w.heap.size,0,none⟩) (by dsimp only;omega)).trans x1;have u2:=(hb2.cell (p:=⟨w.heap.size,1,none⟩) (by dsimp only;omega)).trans x2;have u3:=(hb2.cell (p:=⟨w.heap.size+1,0,none⟩) (by dsimp only;omega)).trans x3;have u4:=(hb2.cell (p:=⟨w.heap.size+1+1,0,none⟩) (by dsimp only;omega)).trans x4;have u5:=(hb2.cell (p:=⟨w.heap.size+1+1,1,none⟩) (by dsimp only;omega)).trans x5;have u6:=(hb2.cell (p:=⟨w.heap.size+1+1+1,0,none⟩) (by dsimp only;omega)).trans x6;have u7:=(hb2.frozen (p:=⟨w.heap.size+1+1+1,0,none⟩) (by dsimp only;omega)).trans x7;clear x1 x2 x3 x4 x5 x6 x7 hb2;gi_wp2_with fail;refine⟨trivial,?_⟩;refine(callsIn_wide.2 (ownsOk_any _ _ _ ho _ hno (hco.below B2))).mono ?_;rintro e w3 ⟨rfl,rfl⟩;gi_wp2_with fail;refine⟨trivial,?_⟩;refine(callsIn_wide.2 (catsAbove_any _ _ _ _ _ _ _ _ _)).mono ?_;rintro e w4 ⟨rfl,h4⟩;have c1:w4.cell? ⟨w3.heap.size,0,none⟩=some (.int .i64 ba):=by rw[h4];go_simp
  have c2:w4.cell? ⟨w3.heap.size,1,none⟩=some (.slice aa na ka):=by rw[h4];go_simp
  have c3:w4.cell? ⟨w3.heap.size+1,0,none⟩=some (.int .i64 bb):=by rw[h4];go_simp
  have c4:w4.cell? ⟨w3.heap.size+1,1,none⟩=some (.slice ab nb kb):=by rw[h4];go_simp
  have z4:w4.heap.size=w3.heap.size+2:=by rw[h4];simp
  have hb4:Below w3.heap.size w3 w4:=by rw[h4];exact((Below.refl _ _).alloc (Nat.le_refl _) _).alloc (by simp) _
  clear h4;have B4:Below w.heap.size w w4:=B2.trans (hb4.mono (by omega));have x1:=(hb4.cell (p:=⟨w.heap.size,0,none⟩) (by dsimp only;omega)).trans u1;have x2:=(hb4.cell (p:=⟨w.heap.size,1,none⟩) (by dsimp only;omega)).trans u2;have x3:=(hb4.cell (p:=⟨w.heap.size+1,0,none⟩) (by dsimp only;omega)).trans u3;have x4:=(hb4.cell (p:=⟨w.heap.size+1+1,0,none⟩) (by dsimp only;omega)).trans u4;have x5:=(hb4.cell (p:=⟨w.heap.size+1+1,1,none⟩) (by dsimp only;omega)).trans u5;have x6:=(hb4.cell (p:=⟨w.heap.size+1+1+1,0,none⟩) (by dsimp only;omega)).trans u6;have x7:=(hb4.frozen (p:=⟨w.heap.size+1+1+1,0,none⟩) (by dsimp only;omega)).trans u7;clear u1 u2 u3 u4 u5 u6 u7 hb4;gi_wp2_with fail;have hLt:TwoLabs w4 w3.heap.size (w3.heap.size+1) ba aa na ka fa ga bb ab nb kb fb gb:=⟨by omega,by omega,c1,c2,c3,c4,hca.below B4,hcb.below B4⟩;have ma:na≤1048576:=by have:=(labOk_out t1).2.1;omega
  have mb:nb≤1048576:=by have:=(labOk_out t2).2.1;omega
  have n1:Na #[.pointer (some ⟨w3.heap.size,0,none⟩),.pointer (some ⟨w3.heap.size+1,0,none⟩)]:=⟨⟩;have hseq:SeqStopsK Fence.wide 3 Tryz.prog 95 n1 (fun x:Int=>#[Value.int .i64 x]) KeepsAll
   (fun xs=>∀x,x∈xs↔aboveB ba na fa ga bb nb fb gb x=true) (fun pre=>∀x,x∈pre→aboveB ba na fa ga bb nb fb gb x=true) (na+nb) w4:=fun l J Jx W hW hJ hJx hY h0=>
   callsIn_wide.2 (catsAbove1_in l w3.heap.size (w3.heap.size+1) ba aa na ka fa ga bb ab nb kb fb gb J Jx W ma mb (labOk_wf t1) (labOk_wf t2) (hLt.below hW) hJ hY h0)
  clear c1 c2 c3 c4 hLt x1 x2 x4 x5;refine wpIn_rangeFunc_ownF rfl (by omega) (gf:=95) (lb:=#[.pointer (some ⟨w3.heap.size,0,none⟩),.pointer (some ⟨w3.heap.size+1,0,none⟩)]) rfl trivial (enters_of Tryz.func95 (by kernel_rfl) rfl)
   hseq KeepsAll.trans (KeepsAll.book (w:=w4)) (Below.refl _ _) (fun _=>rfl)
   (fun pre W=>((∀y,y∈pre→hasB no ho y=true)∧W.cell? ⟨w.heap.size+1,0,none⟩=some (.slice ao no ko)∧W.cell? ⟨w.heap.size+1+1+1,0,none⟩=some (.bool false)∧W.frozen? ⟨w.heap.size+1+1+1,0,none⟩=false)∧Below w.heap.size w W)
   (fun c pre W=>(c= .ret∧(∃y,y∈pre∧hasB no ho y=false)∧W.cell? ⟨w.heap.size+1+1+1,0,none⟩=some (.bool false))∧Below w.heap.size w W)
   (OwnFrom.and (Own.from (fun s A B row hs hg hr=>⟨hs.1,cell_kept hs.2.1 hg hr,cell_kept hs.2.2.1 hg hr,(frozen_kept hs.2.2.1 hg hr).trans hs.2.2.2⟩) _) (ownFrom_below (Nat.le_refl _) (by omega)))
   (fun c=>OwnFrom.and (Own.from (fun s A B row hs hg hr=>⟨hs.1,hs.2.1,cell_kept hs.2.2 hg hr⟩) _) (ownFrom_below (Nat.le_refl _) (by omega)))
   ⟨⟨by simp,x3,x6,x7⟩,B4⟩
   (fun x=>{tmps:=#[.agg n3,.slice ao no ko,.agg n5,.pointer (some ⟨w.heap.size,0,none⟩),.pointer (some ⟨w.heap.size+1,0,none⟩),.pointer (some ⟨w.heap.size+1+1,0,none⟩),.pointer (some ⟨w.heap.size+1+1+1,0,none⟩),.int .i64 x,.agg n3,.bool true,.bool false,.bool false,.agg n5,.bool true,.bool false,.bool false,.bool false,.slice ao no ko,.bool true,.bool false,.bool false,.bool false,.pointer (some ⟨w.heap.size,0,none⟩),.int .i64 ba,.pointer (some ⟨w.heap.size+1+1,0,none⟩),.int .i64 bb,.bool (decide (bb<ba)),.bool (decide (bb<ba)),.agg n3,.agg n5,.func (.func 95) #[] n1,.int .i64 x,undef,undef,undef,undef],defers:=[]}) ?assign ?body ?done ?stop
  case assign=>
   intro l x W K hK;gi_wp2;exact hK
  case body=>
   rintro l pre x W ⟨⟨hp,hcw,hcr,hfr⟩,hB⟩ _;have HP:Hid (∀y,y∈pre→hasB no ho y=true):=hp;clear hp;have hcon:=contains_any ao no ko ho x W hno (hco.below hB);gi_wp2_with fail;refine⟨trivial,?_⟩;refine(CallsIn.inRound l (callsIn_wide.2 hcon)).mono ?_;clear hcon;rintro e W1 ⟨rfl,rfl⟩;cases hx:hasB no ho x with
   |true=>
    have HX:Hid (hasB no ho x=true):=hx;clear hx;gi_wp2;exact⟨KeepsOthers.refl _,KeepsAll.refl _,⟨fun y hy=>(List.mem_append.1 hy).elim (HP.out y) (fun e=>by simp at e;subst e;exact HX.out),hcw,hcr,hfr⟩,hB⟩
   |false=>
    have HX:Hid (hasB no ho x=false):=hx;clear hx;gi_wp2;exact⟨KeepsOthers.setCell _ _ _,⟨rfl,⟨x,List.mem_append.2 (.inr (by simp)),HX.out⟩,World.cell?_setCell_same' _ _ _ (by rw[hcr];rfl)⟩,hB.setCell (p:=⟨w.heap.size+1+1+1,0,none⟩) (by dsimp only;omega) _⟩
  case done=>
   rintro D ys W hD hS ⟨⟨hne,_,hcr,hfr⟩,hB⟩ hK;have hflow:flowAll ba na fa ga no ho bb nb fb gb=true:=by
    have:=flows_of_owned (no:=no) (ho:=ho) t4 (fun x hx=>hne x ((hS x).2 hx));simp[flowAll,t1,t2,t3,this]
   have HF:Hid (flowAll ba na fa ga no ho bb nb fb gb=true):=hflow;clear hflow hS hne;gi_wp2;have hK':=(KeepsOthers.setCell W ⟨w.heap.size+1+1+1,0,none⟩ (.bool true)).same D _ hK rfl;refine⟨by simp,.inl ⟨_,_,rfl,run_takeDeferred hK',?_⟩⟩;have hc5:=cell_kept (World.cell?_setCell_same' W ⟨w.heap.size+1+1+1,0,none⟩ (.bool true) (by rw[hcr];rfl)) (grownBy_putObj' _ D (.deferred none)) (fun r e=>by cases e;exact⟨_,hK',rfl⟩);refine⟨.bool true,?_,by rw[HF.out],(hB.setCell (p:=⟨w.heap.size+1+1+1,0,none⟩) (by dsimp only;omega) _).trans (belowK_b (w:=w) (Nat.le_refl _) _ D _ _ (by omega) hK' rfl rfl)⟩;simp[results,Tryz.results23,go_sem,hc5]
  case stop=>
   rintro D c pre W hD hpre ⟨⟨rfl,⟨y,hy,hno'⟩,hcr⟩,hB⟩ hK;have HF:Hid (flowAll ba na fa ga no ho bb nb fb gb=false):=(by show _=_;simp[flowAll,flows_not_owned (hpre y hy) hno']);clear hpre;gi_wp2;refine⟨by simp,.inl ⟨_,_,rfl,run_takeDeferred hK,?_⟩⟩;have hc5:=cell_kept hcr (grownBy_putObj' _ D (.deferred none)) (fun r e=>by cases e;exact⟨_,hK,rfl⟩);refine⟨.bool false,?_,by rw[HF.out],hB.trans (belowK_b (w:=w) (Nat.le_refl _) W D _ _ (by omega) hK rfl rfl)⟩;simp[results,Tryz.results23,go_sem,hc5]
 ·go_enter Tryz.func23,Tryz.ntmps23
  go_wp2_with fail
  rw[←HW0.out];refine(implOk_any _ _ _ _ fa ga _ hna (hca.below hb0)).mono ?_;rintro e w1 ⟨rfl,hb1⟩;have z1:w.heap.size+1+1+1<w1.heap.size:=by have:=hb1.size;omega
  have B1:Below w.heap.size w w1:=hb0.trans (hb1.mono (by omega));have x1:=(hb1.cell (p:=⟨w.heap.size,0,none⟩) (by dsimp only;omega)).trans y1;have x2:=(hb1.cell (p:=⟨w.heap.size,1,none⟩) (by dsimp only;omega)).trans y2;have x3:=(hb1.cell (p:=⟨w.heap.size+1,0,none⟩) (by dsimp only;omega)).trans y3;have x4:=(hb1.cell (p:=⟨w.heap.size+1+1,0,none⟩) (by dsimp only;omega)).trans y4;have x5:=(hb1.cell (p:=⟨w.heap.size+1+1,1,none⟩) (by dsimp only;omega)).trans y5;have x6:=(hb1.cell (p:=⟨w.heap.size+1+1+1,0,none⟩) (by dsimp only;omega)).trans y6;have x7:=(hb1.frozen (p:=⟨w.heap.size+1+1+1,0,none⟩) (by dsimp only;omega)).trans y7;clear y1 y2 y3 y4 y5 y6 y7 hb1;by_cases t1:labOk ba na fa ga=true
  ·go_wp2_with fail
   refine(implOk_any _ _ _ _ fb gb _ hnb (hcb.below B1)).mono ?_;rintro e w2 ⟨rfl,hb2⟩;have z2:w.heap.size+1+1+1<w2.heap.size:=(by have:=hb2.size;omega);have B2:Below w.heap.size w w2:=B1.trans (hb2.mono (by omega));have u1:=(hb2.cell (p:=⟨w.heap.size,0,none⟩) (by dsimp only;omega)).trans x1;have u2:=(hb2.cell (p:=⟨w.heap.size,1,none⟩) (by dsimp only;omega)).trans x2;have u3:=(hb2.cell (p:=⟨w.heap.size+1,0,none⟩) (by dsimp only;omega)).trans x3;have u4:=(hb2.cell (p:=⟨w.heap.size+1+1,0,none⟩) (by dsimp only;omega)).trans x4;have u5:=(hb2.cell (p:=⟨w.heap.size+1+1,1,none⟩) (by dsimp only;omega)).trans x5;have u6:=(hb2.cell (p:=⟨w.heap.size+1+1+1,0,none⟩) (by dsimp only;omega)).trans x6;have u7:=(hb2.frozen (p:=⟨w.heap.size+1+1+1,0,none⟩) (by dsimp only;omega)).trans x7;clear x1 x2 x3 x4 x5 x6 x7 hb2;by_cases t2:labOk bb nb fb gb=true
   ·go_wp2_with fail
    refine(ownsOk_any _ _ _ ho _ hno (hco.below B2)).mono ?_;rintro e w3 ⟨rfl,rfl⟩;by_cases t3:ownOk no ho=true
    ·have t4:bb<ba:=by
      by_cases q:ba≤bb
      ·exact absurd ⟨t1,t2,t3,q⟩ good
      ·omega
     have HT:Hid (flowAll ba na fa ga no ho bb nb fb gb=false):=(by show _=_;simp[flowAll,flowsB_base t4]);clear good;go_wp2;exact fin.out _ B2 u6 HT.out _ rfl
    ·have t3':ownOk no ho=false:=(by simpa using t3);clear t3 good;have HT:Hid (flowAll ba na fa ga no ho bb nb fb gb=false):=(by show _=_;simp[flowAll,t3']);go_wp2;exact fin.out _ B2 u6 HT.out _ rfl
   ·have t2':labOk bb nb fb gb=false:=(by simpa using t2);clear t2 good;have HT:Hid (flowAll ba na fa ga no ho bb nb fb gb=false):=(by show _=_;simp[flowAll,t2']);go_wp2;exact fin.out w2 B2 u6 HT.out _ rfl
  ·have t1':labOk ba na fa ga=false:=(by simpa using t1);clear t1 good;have HT:Hid (flowAll ba na fa ga no ho bb nb fb gb=false):=(by show _=_;simp[flowAll,t1']);go_wp2;exact fin.out w1 B1 x6 HT.out _ rfl
open Go Go.BigFrame
def Errs(w:World)(E:Nat→Addr):Prop:=∀i,i<14→i≠3→w.cell? ⟨i,0,none⟩=some (.iface 264 (.pointer (some (E i))))∧i<w.heap.size
theorem Errs.below{w w':World}{E:Nat→Addr}{B:Nat}(h:Errs w E)(hB:14≤B)(hb:Below B w w'):Errs w' E:=fun i h1 h2=>by
 obtain⟨a,b⟩:=h i h1 h2;exact⟨by rw[hb.cell (show i<B by omega)];exact a,Nat.lt_of_lt_of_le b hb.size⟩
def Told(w:World)(B:Nat)(E:Nat→Addr)(v:Value)(c:Int):Prop:=(c=0∧v= .nilIface)∨(c≠0∧∃r i,v= .iface 66 (.pointer (some ⟨r,0,none⟩))∧Blk w r (.cells #[.int .i64 c,.iface 264 (.pointer (some (E i)))] 71)∧i≠0∧i<14∧i≠3∧B≤r)
theorem WSt.setLab{w0 wr:World}{B P:Nat}{s:StepV}{g ca q co:Nat}{lt:List ThrV}{lo:List ObjV}{t:Nat}{m:Value}(h0:WSt w0 B P s g ca q co lt lo t m)(h:WSt wr B P s g ca q co lt lo t m){b:Int}{d:CatL}(ht:t<lt.length){X:ThrV}(hX:X=lt[t])(hd:d.new w0.heap.size wr)(hB:B≤w0.heap.size):
 WSt ((wr.setCell ⟨g,t*7+1,none⟩ (.int .i64 b)).setCell ⟨g,t*7+2,none⟩ (.slice d.a d.n d.k)) B P s g ca q co (lt.set t ⟨X.id,b,d,X.b2,X.c2,X.own,X.made⟩) lo t m∧B≤g∧∃cur,Blk wr g (.cells cur 42):=by
 obtain⟨k1,⟨cur,hc⟩,hg⟩:=h.st.setLab (b:=b) ht hX (hd.low hB);have el:(lt.set t (⟨X.id,b,d,X.b2,X.c2,X.own,X.made⟩:ThrV)).length=lt.length:=by simp
 have hn:X.cb.Nodup:=flat_part (L:=lt.map ThrV.cb) (t:=t) (by simp[ht,hX]) h.ap.c;have hi:X.own.bs.Nodup:=flat_part (L:=lt.map fun x=>x.own.bs) (t:=t) (by simp[ht,hX]) h.ap.i;have hx:=h0.st.tn _ (List.getElem_mem ht);rw[←hX]at hx;have hcb:(d.bs++X.c2.bs).Nodup:=List.perm_append_comm.nodup_iff.2 (nodup_two (M:=w0.heap.size) hx.2.1.bs.1 hd.bs.1 (fun x hx'=>(hx.2.1.bs.2 x hx').2) (fun x hx'=>(hd.bs.2 x hx').1));refine⟨⟨by rw[el];exact k1,h.ap.setT h0.st ht (x:=⟨X.id,b,d,X.b2,X.c2,X.own,X.made⟩) hcb (fun y hy=>?_) hi (fun y hy=> .inl (by rw[←hX];exact hy)),by rw[el];exact(h.wk.other (Ne.symm h.setP.1) _).other (Ne.symm h.setP.1) _,h.lp⟩,hg,cur,hc⟩;rcases List.mem_append.1 hy with hy|hy
 ·exact .inr (hd.bs.2 y hy).1
 ·exact .inl (by rw[←hX];exact List.mem_append.2 (.inr hy))


open Go.Sort
section
variable {w w':World}{B b m:Nat}{F:Nat→Value}
end



theorem OwnI.new{w:World}{B k:Nat}{a:Option Addr}{l:List Int}(h:OwnI w B (.slice a l.length k) l)(hm:l.length≤maxLen):(⟨a,l.length,k,nthI l⟩:IntL).new B w:=
 ⟨⟨hm,(OwnI.lies h).ints⟩,fun h0=>by have:=row_of_own h h0;simpa using this⟩
theorem WSt.setOwn{w0 wr:World}{B P:Nat}{s:StepV}{g ca q co:Nat}{lt:List ThrV}{lo:List ObjV}{t:Nat}{m:Value}(h0:WSt w0 B P s g ca q co lt lo t m)(h:WSt wr B P s g ca q co lt lo t m){d:IntL}(ht:t<lt.length){X:ThrV}(hX:X=lt[t])(hd:d.new w0.heap.size wr)(hdc:d.n≤d.k∧d.k≤maxLen)(hB:B≤w0.heap.size):
 WSt (wr.setCell ⟨g,t*7+5,none⟩ (.slice d.a d.n d.k)) B P s g ca q co (lt.set t ⟨X.id,X.b1,X.c1,X.b2,X.c2,d,X.made⟩) lo t m∧B≤g∧∃cur,Blk wr g (.cells cur 42):=by
 obtain⟨k1,⟨cur,hc⟩,hg⟩:=h.st.setOwn ht hX (hd.low hB) hdc;have el:(lt.set t (⟨X.id,X.b1,X.c1,X.b2,X.c2,d,X.made⟩:ThrV)).length=lt.length:=by simp
 have hn:X.cb.Nodup:=flat_part (L:=lt.map ThrV.cb) (t:=t) (by simp[ht,hX]) h.ap.c;exact⟨⟨by rw[el];exact k1,h.ap.setT h0.st ht (x:=⟨X.id,X.b1,X.c1,X.b2,X.c2,d,X.made⟩) hn (fun b hb=> .inl (by rw[←hX];exact hb)) hd.bs.1 (fun y hy=> .inr (hd.bs.2 y hy).1),by rw[el];exact h.wk.other (Ne.symm h.setP.1) _,h.lp⟩,hg,cur,hc⟩


theorem WSt.setQ{wr:World}{B P:Nat}{s:StepV}{g ca q co:Nat}{lt:List ThrV}{lo:List ObjV}{t:Nat}{m:Value}(h:WSt wr B P s g ca q co lt lo t m):P≠q:=fun e=>by
 have ho:=h.st.o;rcases ho.2 with⟨hv,_⟩|⟨g',cap,cur,hv,_,hgg,_⟩
 ·cases hv
 ·cases hv;have hw:=h.wk;unfold Blk at hw;rw[e,hgg]at hw;simp at hw
theorem WSt.setData{wr:World}{B P:Nat}{s:StepV}{g ca q co:Nat}{lt:List ThrV}{lo:List ObjV}{t:Nat}{m:Value}(h:WSt wr B P s g ca q co lt lo t m){d:ByteArray}{u:Nat}(hu:u<lo.length){O:ObjV}(hO:O=lo[u]):
 WSt (wr.setCell ⟨q,u*10+5,none⟩ (.string d)) B P s g ca q co lt (lo.set u ⟨O.id,O.kind,O.up,O.b1,O.c1,d,O.items,O.own,O.b2,O.c2⟩) t m∧B≤q∧∃cur,Blk wr q (.cells cur 47):=by
 obtain⟨k1,⟨cur,hc⟩,hg⟩:=h.st.setData (d:=d) hu hO;have el:(lo.set u (⟨O.id,O.kind,O.up,O.b1,O.c1,d,O.items,O.own,O.b2,O.c2⟩:ObjV)).length=lo.length:=by simp
 have hn:O.cb.Nodup:=flat_part (L:=lo.map ObjV.cb) (S:=(lt.map ThrV.cb).flatten) (t:=u) (by simp[hu,hO]) (List.perm_append_comm.nodup_iff.2 h.ap.c);have hi:O.own.bs.Nodup:=flat_part (L:=lo.map fun x=>x.own.bs) (S:=(lt.map fun x=>x.own.bs).flatten) (t:=u) (by simp[hu,hO]) (List.perm_append_comm.nodup_iff.2 h.ap.i);have hs:O.items.bs.Nodup:=flat_part (L:=lo.map fun x=>x.items.bs) (S:=[]) (t:=u) (by simp[hu,hO]) (by rw[List.append_nil];exact h.ap.s);exact⟨⟨by rw[el];exact k1,h.ap.setO h.st hu (x:=⟨O.id,O.kind,O.up,O.b1,O.c1,d,O.items,O.own,O.b2,O.c2⟩) hn (fun b hb=> .inl (by rw[←hO];exact hb)) hi (fun b hb=> .inl (by rw[←hO];exact hb)) hs (fun b hb=> .inl (by rw[←hO];exact hb)),by rw[el];exact h.wk.other (Ne.symm h.setQ) _,h.lp⟩,hg,cur,hc⟩
section
variable {w w':World}{B:Nat}{row:Option Nat}
end
def StrL.newF(B:Nat)(w:World)(c:StrL):Prop:=c.at w∧(0<c.n→∃b off m F,c.a=some ⟨b,off,none⟩∧B≤b∧off+c.n≤m∧w.rowIs b 9 m F)
theorem StrL.new.f{B:Nat}{w:World}{c:StrL}(h:c.new B w):c.newF B w:=⟨h.1,fun h0=>by
 obtain⟨b,m,F,e,h1,h2,h3⟩:=h.2 h0;exact⟨b,0,m,F,e,h1,by omega,h3⟩⟩
theorem StrL.newF.of{B:Nat}{w w':World}{c:StrL}(h:c.newF B w)(hs:w.heap.size≤w'.heap.size)(hb:∀b∈c.bs,w'.heap[b]? =w.heap[b]?):c.newF B w':=
 ⟨⟨h.1.1,fun hn=>by
   obtain⟨b,off,e,hlt,hc⟩:=h.1.2.1 hn;have hm:b∈c.bs:=(by unfold StrL.bs;rw[if_pos hn,e];simp);exact⟨b,off,e,Nat.lt_of_lt_of_le hlt hs,fun i hi=>by rw[World.cell?_of_block (a:=⟨b,off+i,none⟩) (hb b hm)];exact hc i hi⟩,h.1.2.2⟩,fun hn=>by
   obtain⟨b,off,m,F,e,h1,h2,h3⟩:=h.2 hn;have hm:b∈c.bs:=(by unfold StrL.bs;rw[if_pos hn,e];simp);exact⟨b,off,m,F,e,h1,h2,h3.of_block (hb b hm)⟩⟩
theorem StrL.newF.lt{B:Nat}{w:World}{c:StrL}(h:c.newF B w):∀b∈c.bs,B≤b∧b<w.heap.size:=fun b hb=>by
 unfold StrL.bs at hb;split at hb
 ·rename_i h0;obtain⟨b',off,m,F,e,h1,_,h3⟩:=h.2 h0;rw[e]at hb;rw[List.mem_singleton.1 hb];exact⟨h1,h3.lt⟩
 ·cases hb
theorem StrL.newF.below{B:Nat}{w w':World}{c:StrL}(h:c.newF B w)(hb:Below w.heap.size w w'):c.newF B w':=h.of hb.size (fun b hm=>hb.block b (h.lt b hm).2)
def ObjV.newF(B:Nat)(w:World)(t:ObjV):Prop:=t.c1.new B w∧t.items.newF B w∧t.own.new B w∧t.c2.new B w
theorem ObjV.newF.at{B:Nat}{w:World}{t:ObjV}(h:t.newF B w)(hd:t.data.size≤maxLen):t.at w:=⟨h.1.1,h.2.1.1,h.2.2.1.1,h.2.2.2.1,hd⟩
structure KStF(w:World)(B:Nat)(vt vo:Value)(lt:List ThrV)(lo:List ObjV):Prop where
 t:OwnT w B vt lt
 o:OwnOb w B vo lo
 tn:∀x∈lt,x.new B w
 on:∀x∈lo,x.newF B w
theorem KSt.f{w:World}{B:Nat}{vt vo:Value}{lt:List ThrV}{lo:List ObjV}(h:KSt w B vt vo lt lo):KStF w B vt vo lt lo:=⟨h.t,h.o,h.tn,fun x hx=>⟨(h.on x hx).1,(h.on x hx).2.1.f,(h.on x hx).2.2⟩⟩
theorem KStF.below{w w':World}{B:Nat}{vt vo:Value}{lt:List ThrV}{lo:List ObjV}(h:KStF w B vt vo lt lo)(hb:Below w.heap.size w w'):KStF w' B vt vo lt lo:=
 ⟨h.t.below hb,h.o.below hb,fun x hx=>(h.tn x hx).keeps (KeepsK.of_below hb).l,fun x hx=>⟨(h.on x hx).1.below hb,(h.on x hx).2.1.below hb,(h.on x hx).2.2.1.below hb,(h.on x hx).2.2.2.below hb⟩⟩
structure WStF(wr:World)(B P:Nat)(s:StepV)(g ca q co:Nat)(lt:List ThrV)(lo:List ObjV)(t:Nat)(m:Value):Prop where
 st:KStF wr B (.slice (some ⟨g,0,none⟩) lt.length ca) (.slice (some ⟨q,0,none⟩) lo.length co) lt lo
 ap:Apart lt lo
 wk:Blk wr P (.cells (wkCs s g lt.length ca q lo.length co t m) 117)
theorem WSt.f{wr:World}{B P:Nat}{s:StepV}{g ca q co:Nat}{lt:List ThrV}{lo:List ObjV}{t:Nat}{m:Value}(h:WSt wr B P s g ca q co lt lo t m):WStF wr B P s g ca q co lt lo t m:=⟨h.st.f,h.ap,h.wk⟩
theorem WStF.below{wr w':World}{B P:Nat}{s:StepV}{g ca q co:Nat}{lt:List ThrV}{lo:List ObjV}{t:Nat}{m:Value}(h:WStF wr B P s g ca q co lt lo t m)(hb:Below wr.heap.size wr w'):WStF w' B P s g ca q co lt lo t m:=⟨h.st.below hb,h.ap,h.wk.below hb⟩


theorem Blk.sevenF{W:World}{P t:Nat}{x0 x1 x2 x3 x4 x5 x6:Value}(h:Blk W P (.cells #[x0,x1,x2,x3,x4,x5,x6] t)):W.cell? ⟨P,0,none⟩=some x0∧W.cell? ⟨P,1,none⟩=some x1∧W.cell? ⟨P,2,none⟩=some x2∧W.cell? ⟨P,3,none⟩=some x3∧W.cell? ⟨P,4,none⟩=some x4∧W.cell? ⟨P,5,none⟩=some x5∧W.cell? ⟨P,6,none⟩=some x6:=by
 unfold Blk at h;simp[World.cell?,h]
def seesF(id made b1:Int)(n1:Nat)(f1 g1:Nat→Int)(b2:Int)(n2:Nat)(f2 g2:Nat→Int)(n3:Nat)(h:Nat→Int)(bl:Int)(nl:Nat)(fl gl:Nat→Int):Bool:=
 thrOk id made b1 n1 f1 g1 b2 n2 f2 g2 n3 h&&(labOk bl nl fl gl&&flowsB bl nl fl gl n3 h b1 n1 f1 g1)
def reachF(id made b1:Int)(n1:Nat)(f1 g1:Nat→Int)(b2:Int)(n2:Nat)(f2 g2:Nat→Int)(n3:Nat)(h:Nat→Int)(bl:Int)(nl:Nat)(fl gl:Nat→Int):Bool:=
 thrOk id made b1 n1 f1 g1 b2 n2 f2 g2 n3 h&&(labOk bl nl fl gl&&flowsB b1 n1 f1 g1 n3 h bl nl fl gl)
def changesF(id made b1:Int)(n1:Nat)(f1 g1:Nat→Int)(b2:Int)(n2:Nat)(f2 g2:Nat→Int)(n3:Nat)(h:Nat→Int)(bl:Int)(nl:Nat)(fl gl:Nat→Int):Bool:=
 seesF id made b1 n1 f1 g1 b2 n2 f2 g2 n3 h bl nl fl gl&&reachF id made b1 n1 f1 g1 b2 n2 f2 g2 n3 h bl nl fl gl
theorem thrOk_outF{id made b1:Int}{n1:Nat}{f1 g1:Nat→Int}{b2:Int}{n2:Nat}{f2 g2:Nat→Int}{n3:Nat}{h:Nat→Int}(t:thrOk id made b1 n1 f1 g1 b2 n2 f2 g2 n3 h=true):labOk b1 n1 f1 g1=true∧labOk b2 n2 f2 g2=true∧ownOk n3 h=true:=by
 simp only[thrOk,Bool.and_eq_true]at t;exact⟨t.1.1.1.2,t.1.1.2,t.1.2⟩
theorem implSees_any(id made b1:Int)(a1:Option Addr)(n1 k1:Nat)(f1 g1:Nat→Int)(b2:Int)(a2:Option Addr)(n2 k2:Nat)(f2 g2:Nat→Int)(a3:Option Addr)(n3 k3:Nat)(h:Nat→Int)(bl:Int)(al:Option Addr)(nl kl:Nat)(fl gl:Nat→Int)(w:World)(hn1:n1≤maxLen)(hn2:n2≤maxLen)(hn3:n3≤maxLen)(hc1:CatsAt w a1 n1 f1 g1)(hc2:CatsAt w a2 n2 f2 g2)(hc3:IntsAt w a3 n3 h)(hnl:nl≤maxLen)(hcl:CatsAt w al nl fl gl):
 Calls Tryz.prog 24 #[.agg #[.int .i64 id,.int .i64 b1,.slice a1 n1 k1,.int .i64 b2,.slice a2 n2 k2,.slice a3 n3 k3,.int .i64 made],.agg #[.int .i64 bl,.slice al nl kl]] w fun e w'=>e= .returned (.bool (seesF id made b1 n1 f1 g1 b2 n2 f2 g2 n3 h bl nl fl gl))∧Below w.heap.size w w':=by
 have n4:No (.cells #[.int .i64 id,.int .i64 b1,.slice a1 n1 k1,.int .i64 b2,.slice a2 n2 k2,.slice a3 n3 k3,.int .i64 made] 42):=⟨⟩;have n5:No (.cells #[.int .i64 bl,.slice al nl kl] 30):=⟨⟩;have hb0:=((Below.refl _ w).alloc (Nat.le_refl _) n4).alloc (by simp) n5;have yT:Blk ((w.alloc n4).alloc n5) w.heap.size n4:=(Blk.new w _).alloc _;have yL:Blk ((w.alloc n4).alloc n5) (w.heap.size+1) n5:=by have:=Blk.new (w.alloc n4) n5;simpa using this
 go_enter Tryz.func24,Tryz.ntmps24
 go_wp2_with fail
 refine(implThr_any _ _ _ _ _ _ f1 g1 _ _ _ _ f2 g2 _ _ _ h _ hn1 hn2 hn3 (hc1.below hb0) (hc2.below hb0) (hc3.below hb0)).mono ?_;rintro e w1 ⟨rfl,hb1⟩;have B1:Below w.heap.size w w1:=hb0.trans (hb1.mono (by simp;omega));have xT:=yT.below hb1;have xL:=yL.below hb1;obtain⟨x0,x1,x2,x3,x4,x5,x6⟩:=xT.sevenF;obtain⟨x7,x8⟩:=xL.two;clear yT yL hb0 hb1;by_cases t1:thrOk id made b1 n1 f1 g1 b2 n2 f2 g2 n3 h=true
 ·go_wp2_with fail
  refine(implFlows_any _ _ _ _ fl gl _ _ _ h _ _ _ _ f1 g1 _ hnl hn1 hn3 (hcl.below B1) (hc1.below B1) (hc3.below B1)).mono ?_;rintro e w2 ⟨rfl,hb2⟩;have B2:Below w.heap.size w w2:=B1.trans (hb2.mono B1.size);clear x0 x1 x2 x3 x4 x5 x6 x7 x8 xT xL;go_wp2;go_ret;obtain⟨p1,_,p3⟩:=thrOk_outF t1;exact⟨ret_bool (by simp[flowAll,seesF,t1,p1,p3]),B2⟩
 ·have t1':thrOk id made b1 n1 f1 g1 b2 n2 f2 g2 n3 h=false:=by simpa using t1
  clear t1;go_wp2;go_ret;exact⟨ret_bool (by simp[seesF,t1']),B1⟩
theorem implReaches_any(id made b1:Int)(a1:Option Addr)(n1 k1:Nat)(f1 g1:Nat→Int)(b2:Int)(a2:Option Addr)(n2 k2:Nat)(f2 g2:Nat→Int)(a3:Option Addr)(n3 k3:Nat)(h:Nat→Int)(bl:Int)(al:Option Addr)(nl kl:Nat)(fl gl:Nat→Int)(w:World)(hn1:n1≤maxLen)(hn2:n2≤maxLen)(hn3:n3≤maxLen)(hc1:CatsAt w a1 n1 f1 g1)(hc2:CatsAt w a2 n2 f2 g2)(hc3:IntsAt w a3 n3 h)(hnl:nl≤maxLen)(hcl:CatsAt w al nl fl gl):
 Calls Tryz.prog 54 #[.agg #[.int .i64 id,.int .i64 b1,.slice a1 n1 k1,.int .i64 b2,.slice a2 n2 k2,.slice a3 n3 k3,.int .i64 made],.agg #[.int .i64 bl,.slice al nl kl]] w fun e w'=>e= .returned (.bool (reachF id made b1 n1 f1 g1 b2 n2 f2 g2 n3 h bl nl fl gl))∧Below w.heap.size w w':=by
 have n4:No (.cells #[.int .i64 id,.int .i64 b1,.slice a1 n1 k1,.int .i64 b2,.slice a2 n2 k2,.slice a3 n3 k3,.int .i64 made] 42):=⟨⟩;have n5:No (.cells #[.int .i64 bl,.slice al nl kl] 30):=⟨⟩;have hb0:=((Below.refl _ w).alloc (Nat.le_refl _) n4).alloc (by simp) n5;have yT:Blk ((w.alloc n4).alloc n5) w.heap.size n4:=(Blk.new w _).alloc _;have yL:Blk ((w.alloc n4).alloc n5) (w.heap.size+1) n5:=by have:=Blk.new (w.alloc n4) n5;simpa using this
 go_enter Tryz.func54,Tryz.ntmps54
 go_wp2_with fail
 refine(implThr_any _ _ _ _ _ _ f1 g1 _ _ _ _ f2 g2 _ _ _ h _ hn1 hn2 hn3 (hc1.below hb0) (hc2.below hb0) (hc3.below hb0)).mono ?_;rintro e w1 ⟨rfl,hb1⟩;have B1:Below w.heap.size w w1:=hb0.trans (hb1.mono (by simp;omega));have xT:=yT.below hb1;have xL:=yL.below hb1;obtain⟨x0,x1,x2,x3,x4,x5,x6⟩:=xT.sevenF;obtain⟨x7,x8⟩:=xL.two;clear yT yL hb0 hb1;by_cases t1:thrOk id made b1 n1 f1 g1 b2 n2 f2 g2 n3 h=true
 ·go_wp2_with fail
  refine(implFlows_any _ _ _ _ f1 g1 _ _ _ h _ _ _ _ fl gl _ hn1 hnl hn3 (hc1.below B1) (hcl.below B1) (hc3.below B1)).mono ?_;rintro e w2 ⟨rfl,hb2⟩;have B2:Below w.heap.size w w2:=B1.trans (hb2.mono B1.size);clear x0 x1 x2 x3 x4 x5 x6 x7 x8 xT xL;go_wp2;go_ret;obtain⟨p1,_,p3⟩:=thrOk_outF t1;exact⟨ret_bool (by simp[flowAll,reachF,t1,p1,p3]),B2⟩
 ·have t1':thrOk id made b1 n1 f1 g1 b2 n2 f2 g2 n3 h=false:=by simpa using t1
  clear t1;go_wp2;go_ret;exact⟨ret_bool (by simp[reachF,t1']),B1⟩
theorem implChanges_any(id made b1:Int)(a1:Option Addr)(n1 k1:Nat)(f1 g1:Nat→Int)(b2:Int)(a2:Option Addr)(n2 k2:Nat)(f2 g2:Nat→Int)(a3:Option Addr)(n3 k3:Nat)(h:Nat→Int)(bl:Int)(al:Option Addr)(nl kl:Nat)(fl gl:Nat→Int)(w:World)(hn1:n1≤maxLen)(hn2:n2≤maxLen)(hn3:n3≤maxLen)(hc1:CatsAt w a1 n1 f1 g1)(hc2:CatsAt w a2 n2 f2 g2)(hc3:IntsAt w a3 n3 h)(hnl:nl≤maxLen)(hcl:CatsAt w al nl fl gl):
 Calls Tryz.prog 22 #[.agg #[.int .i64 id,.int .i64 b1,.slice a1 n1 k1,.int .i64 b2,.slice a2 n2 k2,.slice a3 n3 k3,.int .i64 made],.agg #[.int .i64 bl,.slice al nl kl]] w fun e w'=>e= .returned (.bool (changesF id made b1 n1 f1 g1 b2 n2 f2 g2 n3 h bl nl fl gl))∧Below w.heap.size w w':=by
 have n4:No (.cells #[.int .i64 id,.int .i64 b1,.slice a1 n1 k1,.int .i64 b2,.slice a2 n2 k2,.slice a3 n3 k3,.int .i64 made] 42):=⟨⟩;have n5:No (.cells #[.int .i64 bl,.slice al nl kl] 30):=⟨⟩;have hb0:=((Below.refl _ w).alloc (Nat.le_refl _) n4).alloc (by simp) n5;have yT:Blk ((w.alloc n4).alloc n5) w.heap.size n4:=(Blk.new w _).alloc _;have yL:Blk ((w.alloc n4).alloc n5) (w.heap.size+1) n5:=by have:=Blk.new (w.alloc n4) n5;simpa using this
 go_enter Tryz.func22,Tryz.ntmps22
 go_wp2_with fail
 refine(implSees_any _ _ _ _ _ _ f1 g1 _ _ _ _ f2 g2 _ _ _ h _ _ _ _ fl gl _ hn1 hn2 hn3 (hc1.below hb0) (hc2.below hb0) (hc3.below hb0) hnl (hcl.below hb0)).mono ?_;rintro e w1 ⟨rfl,hb1⟩;have B1:Below w.heap.size w w1:=hb0.trans (hb1.mono (by simp;omega));have xT:=yT.below hb1;have xL:=yL.below hb1;obtain⟨x0,x1,x2,x3,x4,x5,x6⟩:=xT.sevenF;obtain⟨x7,x8⟩:=xL.two;clear yT yL hb0 hb1;by_cases t1:seesF id made b1 n1 f1 g1 b2 n2 f2 g2 n3 h bl nl fl gl=true
 ·go_wp2_with fail
  refine(implReaches_any _ _ _ _ _ _ f1 g1 _ _ _ _ f2 g2 _ _ _ h _ _ _ _ fl gl _ hn1 hn2 hn3 (hc1.below B1) (hc2.below B1) (hc3.below B1) hnl (hcl.below B1)).mono ?_;rintro e w2 ⟨rfl,hb2⟩;have B2:Below w.heap.size w w2:=B1.trans (hb2.mono B1.size);clear x0 x1 x2 x3 x4 x5 x6 x7 x8 xT xL;go_wp2;go_ret;exact⟨ret_bool (by simp[changesF,t1]),B2⟩
 ·have t1':seesF id made b1 n1 f1 g1 b2 n2 f2 g2 n3 h bl nl fl gl=false:=by simpa using t1
  clear t1;go_wp2;go_ret;exact⟨ret_bool (by simp[changesF,t1']),B1⟩
theorem told_new(w:World){B:Nat}(E:Nat→Addr)(hB:B≤w.heap.size)(c:Int)(hc:c≠0)(i:Nat)(h0:i≠0)(h1:i<14)(h3:i≠3){r:Nat}(hr:w.heap.size=r):Told (w.alloc (.cells #[.int .i64 c,.iface 264 (.pointer (some (E i)))] 71)) B E (.iface 66 (.pointer (some ⟨r,0,none⟩))) c:=by
 subst hr;exact .inr ⟨hc,_,i,rfl,Blk.new w _,h0,h1,h3,hB⟩

end Go.Proofs.YtallmkehpfaaeaaGreatDoor
