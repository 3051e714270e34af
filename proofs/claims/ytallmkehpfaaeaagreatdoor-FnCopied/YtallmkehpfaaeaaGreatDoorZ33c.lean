import Derived.Test.YtallmkehpfaaeaaGreatDoorFBc
import Derived.Test.YtallmkehpfaaeaaGreatDoorZ0c
import Derived.RangeFuncFrom
import Derived.Test.YtallmkehpfaaeaaGreatDoorZ30c
import Derived.Test.YtallmkehpfaaeaaGreatDoorZ31c
import Derived.Test.YtallmkehpfaaeaaGreatDoorZ9c
import Derived.Deep.CutBlock
import Derived.Test.YtallmkehpfaaeaaGreatDoorProg
import Derived.Shelf.SlicesG.Delete
import Derived.Shelf.SlicesG.CompactI
import Derived.Ground.SlgnProg
import Derived.Test.YtallmkehpfaaeaaGreatDoorZ10c
import Derived.Sort.OwnSortedInts
import Derived.Test.YtallmkehpfaaeaaGreatDoorZ12c
import Derived.Test.YtallmkehpfaaeaaGreatDoorZ13c
import Derived.Test.YtallmkehpfaaeaaGreatDoorZ5c
set_option maxRecDepth 100000
set_option maxHeartbeats 8000000
namespace Go.Proofs.YtallmkehpfaaeaaGreatDoor
open Go.RowKit Go.Deep Go.Maps Go.Shelf Go.Proofs.Tryz
attribute [local go_sem] Oper.semAt_some
theorem Tx(a:Option Addr)(n cap:Nat)(h:Nat->Int)(x:Int)(w:World)(hn:n<=maxLen)(hc:AX w a n h):
 Calls prog 99 #[.slice a n cap,.int .i64 x] w fun e w'=>∃r:Int,e= .returned (.int .i64 r)/\(decide (0<=r)=hasB n h x)/\w'=w:=by
 unfold maxLen at hn;go_enter func99,ntmps99
 go_wp2;go_loop [8] (fun i=>∃k:Nat,k<=n/\i= .int .i64 k/\(∀j,j<k->h j≠x)) (fun i=>n-(intOf i).toNat)
 case atStart=>exact⟨0,Nat.zero_le _,rfl,fun j hj=>by omega⟩
 case round=>
  obtain⟨k,hk,rfl,hall⟩:=hrel;have HA:Hid (∀j,j<k->h j≠x):=hall;clear hall;by_cases hlt':k<n
  ·obtain⟨b,off,rfl,hlt,hcc⟩:=hc (by omega);have g1:=hcc k hlt';clear hcc hc;by_cases t:(x==h k)=true
   ·go_wp2;go_ret;exact⟨_,rfl,by rw[P3 hlt' (by simpa using(beq_iff_eq.1 t).symm)];simp,rfl⟩
   ·have t':(x==h k)=false:=(by simpa using t);clear t;go_wp2;go_round;case rel=>
     refine⟨k+1,by omega,by go_num,fun j hj=>?_⟩;by_cases e:j=k
     ·subst e;intro q;rw[q]at t';simp at t'
     ·exact HA.out j (by omega)
    case measure=>simp[intOf];omega
  ·clear hc;go_wp2;go_ret;have e:k=n:=(by omega);subst e;exact⟨_,rfl,by rw[Su HA.out];simp,rfl⟩
theorem Pq(a:Option Addr)(n cap:Nat)(h:Nat->Int)(x:Int)(w:World)(hn:n<=maxLen)(hc:AX w a n h):
 Calls prog 57 #[.slice a n cap,.int .i64 x] w fun e w'=>e= .returned (.bool (hasB n h x))/\w'=w:=by
 go_enter func57,ntmps57
 go_wp2_with(go_at_call 99;refine(Tx _ _ _ h _ _ hn hc).mono ?_;rintro e w' ⟨r,rfl,hr,rfl⟩)
 all_goals
  go_ret;refine⟨Af ?_,rfl⟩;rw[<-hr];first|done|(simp;done)|(simp;omega)
theorem MR(ba:Int)(aa:Option Addr)(na ka:Nat)(bb:Int)(ab:Option Addr)(nb kb:Nat)(w:World):
 Calls prog 56 #[.agg #[.int .i64 ba,.slice aa na ka],.agg #[.int .i64 bb,.slice ab nb kb]] w fun e w'=>e= .returned (.func (.func 95) #[] #[.pointer (some ⟨w,0,none⟩),.pointer (some ⟨w.heap.size+1,0,none⟩)])/\
  w'=(w.alloc (.cells #[.int .i64 ba,.slice aa na ka] 30)).alloc (.cells #[.int .i64 bb,.slice ab nb kb] 30):=by
 go_enter func56,ntmps56
 go_wp2;go_ret;exact⟨rfl,rfl⟩
def Cq(ba:Int)(na:Nat)(fa ga:Nat->Int)(no:Nat)(ho:Nat->Int)(bb:Int)(nb:Nat)(fb gb:Nat->Int):Bool:=
 AO ba na fa ga&&AO bb nb fb gb&&BH no ho&&Cg ba na fa ga no ho bb nb fb gb
theorem Ms{ba:Int}{na:Nat}{fa ga:Nat->Int}{bb:Int}{nb:Nat}{fb gb:Nat->Int}{x:Int}(h0:ba<=bb)(h:DT bb nb fb gb x<DT ba na fa ga x):
 ((look fa ga na x).isSome||(look fb gb nb x).isSome)=true:=by
 cases h1:look fa ga na x with
 |some v=>simp
 |none=>
  cases h2:look fb gb nb x with
  |some v=>simp
  |none=>simp[DT,h1,h2]at h;omega
theorem Lq{ba:Int}{na:Nat}{fa ga:Nat->Int}{no:Nat}{ho:Nat->Int}{bb:Int}{nb:Nat}{fb gb:Nat->Int}(h0:ba<=bb)
 (h:∀x,GC ba na fa ga bb nb fb gb x=true->hasB no ho x=true):Cg ba na fa ga no ho bb nb fb gb=true:=by
 refine Nu h0 fun i hi=>?_;unfold H9;by_cases e:DT bb nb fb gb (glue na fa fb i)<DT ba na fa ga (glue na fa fb i)
 ·rw[h _ (by unfold GC;rw[Ms h0 e];simpa using e)];rfl
 ·simp[e]
theorem KM{ba:Int}{na:Nat}{fa ga:Nat->Int}{no:Nat}{ho:Nat->Int}{bb:Int}{nb:Nat}{fb gb:Nat->Int}{x:Int}
 (h:GC ba na fa ga bb nb fb gb x=true)(ho':hasB no ho x=false):Cg ba na fa ga no ho bb nb fb gb=false:=by
 unfold GC at h;rw[Bool.and_eq_true,Bool.or_eq_true]at h;have hl:H9 ba na fa ga no ho bb nb fb gb x=false:=by unfold H9;rw[ho',h.2];rfl
 rcases h.1 with e|e
 ·obtain⟨i,hi,e⟩:=Km e;exact J9 (k:=i) (by omega) (by simp only[glue,hi,if_true];rw[e];exact hl)
 ·obtain⟨i,hi,e⟩:=Km e;exact J9 (k:=na+i) (by omega) (by
   have e1:¬na+i<na:=(by omega);have e2:na+i-na=i:=(by omega);simp only[glue,e1,if_false,e2];rw[e];exact hl)
theorem Gx(ba:Int)(aa:Option Addr)(na ka:Nat)(fa ga:Nat->Int)(ao:Option Addr)(no ko:Nat)(ho:Nat->Int)(bb:Int)(ab:Option Addr)(nb kb:Nat)(fb gb:Nat->Int)(w:World)
 (hna:na<=maxLen)(hnb:nb<=maxLen)(hno:no<=maxLen)(hca:AI w aa na fa ga)(hcb:AI w ab nb fb gb)(hco:AX w ao no ho):
 Calls prog 23 #[.agg #[.int .i64 ba,.slice aa na ka],.slice ao no ko,.agg #[.int .i64 bb,.slice ab nb kb]] w fun e w'=>e= .returned (.bool (Cq ba na fa ga no ho bb nb fb gb))/\Below w w w':=by
 have n2:No (.cells #[.int .i64 ba,.slice aa na ka] 30):=⟨⟩;have n4:No (.cells #[.int .i64 bb,.slice ab nb kb] 30):=⟨⟩;have hb0:=((((Below.refl _ w).alloc (Nat.le_refl _) n2).alloc (by simp) (.cells #[.slice ao no ko] 40)).alloc (by simp;omega) n4).alloc (by simp;omega) (.cells #[.bool false] 4);obtain⟨W0,hW0⟩:∃W0,W0=((((w.alloc n2).alloc (.cells #[.slice ao no ko] 40)).alloc n4).alloc (.cells #[.bool false] 4)):=⟨_,rfl⟩;have y1:W0.cell? ⟨w,0,none⟩=some (.int .i64 ba):=by rw[hW0];go_simp
 have y2:W0.cell? ⟨w,1,none⟩=some (.slice aa na ka):=by rw[hW0];go_simp
 have y3:W0.cell? ⟨w.heap.size+1,0,none⟩=some (.slice ao no ko):=by rw[hW0];go_simp
 have y4:W0.cell? ⟨w.heap.size+1+1,0,none⟩=some (.int .i64 bb):=by rw[hW0];go_simp
 have y5:W0.cell? ⟨w.heap.size+1+1,1,none⟩=some (.slice ab nb kb):=by rw[hW0];go_simp
 have y6:W0.cell? ⟨w.heap.size+1+1+1,0,none⟩=some (.bool false):=by rw[hW0];go_simp
 have y7:W0.frozen? ⟨w.heap.size+1+1+1,0,none⟩=false:=by rw[hW0];go_simp
 have ys:W0.heap.size=w.heap.size+4:=by rw[hW0];simp
 rw[<-hW0]at hb0;have n3:Na #[.int .i64 ba,.slice aa na ka]:=⟨⟩;have n5:Na #[.int .i64 bb,.slice ab nb kb]:=⟨⟩;have HW0:Hid (W0=((((w.alloc (.cells n3 30)).alloc (.cells #[.slice ao no ko] 40)).alloc (.cells n5 30)).alloc (.cells #[.bool false] 4))):=hW0;clear hW0;have fin:Hid (∀W1,Below w w W1->W1.cell? ⟨w.heap.size+1+1+1,0,none⟩=some (.bool false)->Cq ba na fa ga no ho bb nb fb gb=false->
  ∀tm:Array Value,tm[6]? =some (.pointer (some ⟨w.heap.size+1+1+1,0,none⟩))->bodyPost prog Tryz.f23 (fun e w'=>e= .returned (.bool (Cq ba na fa ga no ho bb nb fb gb))/\Below w w w') .ret {tmps:=tm,defers:=[]} (W1.setCell ⟨w.heap.size+1+1+1,0,none⟩ (.bool false))):=fun W1 hB hc hf tm ht=>by
  have hc5:=World.cell?_setCell_same' W1 ⟨w.heap.size+1+1+1,0,none⟩ (.bool false) (by rw[hc];rfl);refine bodyPost_ret (v:= .bool false) ?_ rfl ⟨by rw[hf],hB.setCell (p:=⟨w.heap.size+1+1+1,0,none⟩) (by dsimp only;omega) _⟩;simp[results,Tryz.results23,go_sem,ht,hc5]
 by_cases good:AO ba na fa ga=true/\AO bb nb fb gb=true/\BH no ho=true/\ba<=bb
 ·obtain⟨t1,t2,t3,t4⟩:=good;refine(callsIn_wide (n:=4)).1 ?_;refine callsIn_of_wp_marks func23 rfl trivial ?_ rfl;simp only[ntmps23,List.size_toArray,List.length_cons,List.length_nil,Nat.reduceAdd,Nat.reduceSub,Array.replicate_succ,Array.replicate_zero,List.push_toArray,List.append_toArray,List.nil_append,List.cons_append];gi_wp2_with fail;rw[<-HW0.out];refine⟨trivial,?_⟩;refine(callsIn_wide.2 (Ds _ _ _ _ fa ga _ hna (hca.below hb0))).mono ?_;rintro e w1 ⟨rfl,hb1⟩;have z1:w.heap.size+1+1+1<w1.heap.size:=by have:=hb1.size;omega
  have B1:Below w w w1:=hb0.trans (hb1.mono (by omega));have x1:=(hb1.cell (p:=⟨w,0,none⟩) (by dsimp only;omega)).trans y1;have x2:=(hb1.cell (p:=⟨w,1,none⟩) (by dsimp only;omega)).trans y2;have x3:=(hb1.cell (p:=⟨w.heap.size+1,0,none⟩) (by dsimp only;omega)).trans y3;have x4:=(hb1.cell (p:=⟨w.heap.size+1+1,0,none⟩) (by dsimp only;omega)).trans y4;have x5:=(hb1.cell (p:=⟨w.heap.size+1+1,1,none⟩) (by dsimp only;omega)).trans y5;have x6:=(hb1.cell (p:=⟨w.heap.size+1+1+1,0,none⟩) (by dsimp only;omega)).trans y6;have x7:=(hb1.frozen (p:=⟨w.heap.size+1+1+1,0,none⟩) (by dsimp only;omega)).trans y7;clear y1 y2 y3 y4 y5 y6 y7 hb1;gi_wp2_with fail;refine⟨trivial,?_⟩;refine(callsIn_wide.2 (Ds _ _ _ _ fb gb _ hnb (hcb.below B1))).mono ?_;rintro e w2 ⟨rfl,hb2⟩;have z2:w.heap.size+1+1+1<w2.heap.size:=by have:=hb2.size;omega
  have B2:Below w w w2:=B1.trans (hb2.mono (by omega));have u1:=(hb2.cell (p:=⟨w,0,none⟩) (by dsimp only;omega)).trans x1;have u2:=(hb2.cell (p:=⟨w,1,none⟩) (by dsimp only;omega)).trans x2;have u3:=(hb2.cell (p:=⟨w.heap.size+1,0,none⟩) (by dsimp only;omega)).trans x3;have u4:=(hb2.cell (p:=⟨w.heap.size+1+1,0,none⟩) (by dsimp only;omega)).trans x4;have u5:=(hb2.cell (p:=⟨w.heap.size+1+1,1,none⟩) (by dsimp only;omega)).trans x5;have u6:=(hb2.cell (p:=⟨w.heap.size+1+1+1,0,none⟩) (by dsimp only;omega)).trans x6;have u7:=(hb2.frozen (p:=⟨w.heap.size+1+1+1,0,none⟩) (by dsimp only;omega)).trans x7;clear x1 x2 x3 x4 x5 x6 x7 hb2;gi_wp2_with fail;refine⟨trivial,?_⟩;refine(callsIn_wide.2 (Hb _ _ _ ho _ hno (hco.below B2))).mono ?_;rintro e w3 ⟨rfl,rfl⟩;gi_wp2_with fail;refine⟨trivial,?_⟩;refine(callsIn_wide.2 (MR _ _ _ _ _ _ _ _ _)).mono ?_;rintro e w4 ⟨rfl,h4⟩;have c1:w4.cell? ⟨w3,0,none⟩=some (.int .i64 ba):=by rw[h4];go_simp
  have c2:w4.cell? ⟨w3,1,none⟩=some (.slice aa na ka):=by rw[h4];go_simp
  have c3:w4.cell? ⟨w3.heap.size+1,0,none⟩=some (.int .i64 bb):=by rw[h4];go_simp
  have c4:w4.cell? ⟨w3.heap.size+1,1,none⟩=some (.slice ab nb kb):=by rw[h4];go_simp
  have z4:w4.heap.size=w3.heap.size+2:=by rw[h4];simp
  have hb4:Below w3 w3 w4:=by rw[h4];exact((Below.refl _ _).alloc (Nat.le_refl _) _).alloc (by simp) _
  clear h4;have B4:Below w w w4:=B2.trans (hb4.mono (by omega));have x1:=(hb4.cell (p:=⟨w,0,none⟩) (by dsimp only;omega)).trans u1;have x2:=(hb4.cell (p:=⟨w,1,none⟩) (by dsimp only;omega)).trans u2;have x3:=(hb4.cell (p:=⟨w.heap.size+1,0,none⟩) (by dsimp only;omega)).trans u3;have x4:=(hb4.cell (p:=⟨w.heap.size+1+1,0,none⟩) (by dsimp only;omega)).trans u4;have x5:=(hb4.cell (p:=⟨w.heap.size+1+1,1,none⟩) (by dsimp only;omega)).trans u5;have x6:=(hb4.cell (p:=⟨w.heap.size+1+1+1,0,none⟩) (by dsimp only;omega)).trans u6;have x7:=(hb4.frozen (p:=⟨w.heap.size+1+1+1,0,none⟩) (by dsimp only;omega)).trans u7;clear u1 u2 u3 u4 u5 u6 u7 hb4;gi_wp2_with fail;have hLt:Ip w4 w3 (w3.heap.size+1) ba aa na ka fa ga bb ab nb kb fb gb:=⟨by omega,by omega,c1,c2,c3,c4,hca.below B4,hcb.below B4⟩;have ma:na<=1048576:=by have:=(JA t1).2.1;omega
  have mb:nb<=1048576:=by have:=(JA t2).2.1;omega
  have n1:Na #[.pointer (some ⟨w3,0,none⟩),.pointer (some ⟨w3.heap.size+1,0,none⟩)]:=⟨⟩;have hseq:SeqStopsK Fence.wide 3 prog 95 n1 (fun x:Int=>#[Value.int .i64 x]) Bn
   (fun xs=>∀x,x∈xs↔GC ba na fa ga bb nb fb gb x=true) (fun pre=>∀x,x∈pre->GC ba na fa ga bb nb fb gb x=true) (na+nb) w4:=fun l J Jx W hW hJ hJx hY h0=>
   callsIn_wide.2 (MX l w3 (w3.heap.size+1) ba aa na ka fa ga bb ab nb kb fb gb J Jx W ma mb (PQ t1) (PQ t2) (hLt.below hW) hJ hY h0)
  clear c1 c2 c3 c4 hLt x1 x2 x4 x5;refine wpIn_rangeFunc_ownF rfl (by omega) (gf:=95) (lb:=#[.pointer (some ⟨w3,0,none⟩),.pointer (some ⟨w3.heap.size+1,0,none⟩)]) rfl trivial (enters_of func95 (by kernel_rfl) rfl)
   hseq Bn.trans (Bn.book (w:=w4)) (Below.refl _ _) (fun _=>rfl)
   (fun pre W=>((∀y,y∈pre->hasB no ho y=true)/\W.cell? ⟨w.heap.size+1,0,none⟩=some (.slice ao no ko)/\W.cell? ⟨w.heap.size+1+1+1,0,none⟩=some (.bool false)/\W.frozen? ⟨w.heap.size+1+1+1,0,none⟩=false)/\Below w w W)
   (fun c pre W=>(c= .ret/\(∃y,y∈pre/\hasB no ho y=false)/\W.cell? ⟨w.heap.size+1+1+1,0,none⟩=some (.bool false))/\Below w w W)
   (OwnFrom.and (Own.from (fun s A B row hs hg hr=>⟨hs.1,cell_kept hs.2.1 hg hr,cell_kept hs.2.2.1 hg hr,(frozen_kept hs.2.2.1 hg hr).trans hs.2.2.2⟩) _) (ownFrom_below (Nat.le_refl _) (by omega)))
   (fun c=>OwnFrom.and (Own.from (fun s A B row hs hg hr=>⟨hs.1,hs.2.1,cell_kept hs.2.2 hg hr⟩) _) (ownFrom_below (Nat.le_refl _) (by omega)))
   ⟨⟨by simp,x3,x6,x7⟩,B4⟩
   (fun x=>{tmps:=#[.agg n3,.slice ao no ko,.agg n5,.pointer (some ⟨w,0,none⟩),.pointer (some ⟨w.heap.size+1,0,none⟩),.pointer (some ⟨w.heap.size+1+1,0,none⟩),.pointer (some ⟨w.heap.size+1+1+1,0,none⟩),.int .i64 x,.agg n3,.bool true,.bool false,.bool false,.agg n5,.bool true,.bool false,.bool false,.bool false,.slice ao no ko,.bool true,.bool false,.bool false,.bool false,.pointer (some ⟨w,0,none⟩),.int .i64 ba,.pointer (some ⟨w.heap.size+1+1,0,none⟩),.int .i64 bb,.bool (decide (bb<ba)),.bool (decide (bb<ba)),.agg n3,.agg n5,.func (.func 95) #[] n1,.int .i64 x,undef,undef,undef,undef],defers:=[]}) ?assign ?body ?done ?stop
  case assign=>
   intro l x W K hK;gi_wp2;exact hK
  case body=>
   rintro l pre x W ⟨⟨hp,hcw,hcr,hfr⟩,hB⟩ _;have HP:Hid (∀y,y∈pre->hasB no ho y=true):=hp;clear hp;have hcon:=Pq ao no ko ho x W hno (hco.below hB);gi_wp2_with fail;refine⟨trivial,?_⟩;refine(CallsIn.inRound l (callsIn_wide.2 hcon)).mono ?_;clear hcon;rintro e W1 ⟨rfl,rfl⟩;cases hx:hasB no ho x with
   |true=>
    have HX:Hid (hasB no ho x=true):=hx;clear hx;gi_wp2;exact⟨KeepsOthers.refl _,Bn.refl _,⟨fun y hy=>(List.mem_append.1 hy).elim (HP y) (fun e=>by simp at e;subst e;exact HX.out),hcw,hcr,hfr⟩,hB⟩
   |false=>
    have HX:Hid (hasB no ho x=false):=hx;clear hx;gi_wp2;exact⟨KeepsOthers.setCell _ _ _,⟨rfl,⟨x,List.mem_append.2 (.inr (by simp)),HX⟩,World.cell?_setCell_same' _ _ _ (by rw[hcr];rfl)⟩,hB.setCell (p:=⟨w.heap.size+1+1+1,0,none⟩) (by dsimp only;omega) _⟩
  case done=>
   rintro D ys W hD hS ⟨⟨hne,_,hcr,hfr⟩,hB⟩ hK;have hflow:Cq ba na fa ga no ho bb nb fb gb=true:=by
    have:=Lq (no:=no) (ho:=ho) t4 (fun x hx=>hne x ((hS x).2 hx));simp[Cq,t1,t2,t3,this]
   have HF:Hid (Cq ba na fa ga no ho bb nb fb gb=true):=hflow;clear hflow hS hne;gi_wp2;have hK':=(KeepsOthers.setCell W ⟨w.heap.size+1+1+1,0,none⟩ (.bool true)).same D _ hK rfl;refine⟨by simp,.inl ⟨_,_,rfl,run_takeDeferred hK',?_⟩⟩;have hc5:=cell_kept (World.cell?_setCell_same' W ⟨w.heap.size+1+1+1,0,none⟩ (.bool true) (by rw[hcr];rfl)) (grownBy_putObj' _ D (.deferred none)) (fun r e=>by cases e;exact⟨_,hK',rfl⟩);refine⟨.bool true,?_,by rw[HF.out],(hB.setCell (p:=⟨w.heap.size+1+1+1,0,none⟩) (by dsimp only;omega) _).trans (belowK_b (w:=w) (Nat.le_refl _) _ D _ _ (by omega) hK' rfl rfl)⟩;simp[results,Tryz.results23,go_sem,hc5]
  case stop=>
   rintro D c pre W hD hpre ⟨⟨rfl,⟨y,hy,hno'⟩,hcr⟩,hB⟩ hK;have HF:Hid (Cq ba na fa ga no ho bb nb fb gb=false):=(by show _=_;simp[Cq,KM (hpre y hy) hno']);clear hpre;gi_wp2;refine⟨by simp,.inl ⟨_,_,rfl,run_takeDeferred hK,?_⟩⟩;have hc5:=cell_kept hcr (grownBy_putObj' _ D (.deferred none)) (fun r e=>by cases e;exact⟨_,hK,rfl⟩);refine⟨.bool false,?_,by rw[HF.out],hB.trans (belowK_b (w:=w) (Nat.le_refl _) W D _ _ (by omega) hK rfl rfl)⟩;simp[results,Tryz.results23,go_sem,hc5]
 ·go_enter func23,ntmps23
  go_wp2_with fail
  rw[<-HW0.out];refine(Ds _ _ _ _ fa ga _ hna (hca.below hb0)).mono ?_;rintro e w1 ⟨rfl,hb1⟩;have z1:w.heap.size+1+1+1<w1.heap.size:=by have:=hb1.size;omega
  have B1:Below w w w1:=hb0.trans (hb1.mono (by omega));have x1:=(hb1.cell (p:=⟨w,0,none⟩) (by dsimp only;omega)).trans y1;have x2:=(hb1.cell (p:=⟨w,1,none⟩) (by dsimp only;omega)).trans y2;have x3:=(hb1.cell (p:=⟨w.heap.size+1,0,none⟩) (by dsimp only;omega)).trans y3;have x4:=(hb1.cell (p:=⟨w.heap.size+1+1,0,none⟩) (by dsimp only;omega)).trans y4;have x5:=(hb1.cell (p:=⟨w.heap.size+1+1,1,none⟩) (by dsimp only;omega)).trans y5;have x6:=(hb1.cell (p:=⟨w.heap.size+1+1+1,0,none⟩) (by dsimp only;omega)).trans y6;have x7:=(hb1.frozen (p:=⟨w.heap.size+1+1+1,0,none⟩) (by dsimp only;omega)).trans y7;clear y1 y2 y3 y4 y5 y6 y7 hb1;by_cases t1:AO ba na fa ga=true
  ·go_wp2_with fail
   refine(Ds _ _ _ _ fb gb _ hnb (hcb.below B1)).mono ?_;rintro e w2 ⟨rfl,hb2⟩;have z2:w.heap.size+1+1+1<w2.heap.size:=(by have:=hb2.size;omega);have B2:Below w w w2:=B1.trans (hb2.mono (by omega));have u1:=(hb2.cell (p:=⟨w,0,none⟩) (by dsimp only;omega)).trans x1;have u2:=(hb2.cell (p:=⟨w,1,none⟩) (by dsimp only;omega)).trans x2;have u3:=(hb2.cell (p:=⟨w.heap.size+1,0,none⟩) (by dsimp only;omega)).trans x3;have u4:=(hb2.cell (p:=⟨w.heap.size+1+1,0,none⟩) (by dsimp only;omega)).trans x4;have u5:=(hb2.cell (p:=⟨w.heap.size+1+1,1,none⟩) (by dsimp only;omega)).trans x5;have u6:=(hb2.cell (p:=⟨w.heap.size+1+1+1,0,none⟩) (by dsimp only;omega)).trans x6;have u7:=(hb2.frozen (p:=⟨w.heap.size+1+1+1,0,none⟩) (by dsimp only;omega)).trans x7;clear x1 x2 x3 x4 x5 x6 x7 hb2;by_cases t2:AO bb nb fb gb=true
   ·go_wp2_with fail
    refine(Hb _ _ _ ho _ hno (hco.below B2)).mono ?_;rintro e w3 ⟨rfl,rfl⟩;by_cases t3:BH no ho=true
    ·have t4:bb<ba:=by
      by_cases q:ba<=bb
      ·exact absurd ⟨t1,t2,t3,q⟩ good
      ·omega
     have HT:Hid (Cq ba na fa ga no ho bb nb fb gb=false):=(by show _=_;simp[Cq,Kh t4]);clear good;go_wp2;exact fin.out _ B2 u6 HT _ rfl
    ·have t3':BH no ho=false:=(by simpa using t3);clear t3 good;have HT:Hid (Cq ba na fa ga no ho bb nb fb gb=false):=(by show _=_;simp[Cq,t3']);go_wp2;exact fin.out _ B2 u6 HT _ rfl
   ·have t2':AO bb nb fb gb=false:=(by simpa using t2);clear t2 good;have HT:Hid (Cq ba na fa ga no ho bb nb fb gb=false):=(by show _=_;simp[Cq,t2']);go_wp2;exact fin.out w2 B2 u6 HT _ rfl
  ·have t1':AO ba na fa ga=false:=(by simpa using t1);clear t1 good;have HT:Hid (Cq ba na fa ga no ho bb nb fb gb=false):=(by show _=_;simp[Cq,t1']);go_wp2;exact fin.out w1 B1 x6 HT _ rfl
open Go Go.BigFrame
def Mm(w:World)(E:Nat->Addr):Prop:=∀i,i<14->i≠3->w.cell? ⟨i,0,none⟩=some (.iface 264 (.pointer (some (E i))))/\i<w.heap.size
theorem Mm.below{w w':World}{E:Nat->Addr}{B:Nat}(h:Mm w E)(hB:14<=B)(hb:Below B w w'):Mm w' E:=fun i h1 h2=>by
 obtain⟨a,b⟩:=h i h1 h2;exact⟨by rw[hb.cell (show i<B by omega)];exact a,Nat.lt_of_lt_of_le b hb.size⟩
def Told(w:World)(B:Nat)(E:Nat->Addr)(v:Value)(c:Int):Prop:=(c=0/\v= .nilIface)∨(c≠0/\∃r i,v= .iface 66 (.pointer (some ⟨r,0,none⟩))/\Ah w r (.cells #[.int .i64 c,.iface 264 (.pointer (some (E i)))] 71)/\i≠0/\i<14/\i≠3/\B<=r)
theorem F7.setLab{w0 wr:World}{B P:Nat}{s:Al}{g ca q co:Nat}{lt:List Ae}{lo:List Ab}{t:Nat}{m:Value}(h0:F7 w0 B P s g ca q co lt lo t m)(h:F7 wr B P s g ca q co lt lo t m){b:Int}{d:As}(ht:t<lt.length){X:Ae}(hX:X=lt[t])(hd:d.new w0 wr)(hB:B<=w0.heap.size):
 F7 ((wr.setCell ⟨g,t*7+1,none⟩ (.int .i64 b)).setCell ⟨g,t*7+2,none⟩ (.slice d.a d.n d.k)) B P s g ca q co (lt.set t ⟨X.id,b,d,X.b2,X.c2,X.own,X.made⟩) lo t m/\B<=g/\∃cur,Ah wr g (.cells cur 42):=by
 obtain⟨k1,⟨cur,hc⟩,hg⟩:=h.st.setLab (b:=b) ht hX (hd.low hB);have el:(lt.set t (⟨X.id,b,d,X.b2,X.c2,X.own,X.made⟩:Ae)).length=lt.length:=by simp
 have hn:X.cb.Nodup:=CV (L:=lt.map Ae.cb) (t:=t) (by simp[ht,hX]) h.ap.c;have hi:X.own.bs.Nodup:=CV (L:=lt.map fun x=>x.own.bs) (t:=t) (by simp[ht,hX]) h.ap.i;have hx:=h0.st.tn _ (List.getElem_mem ht);rw[<-hX]at hx;have hcb:(d.bs++X.c2.bs).Nodup:=List.perm_append_comm.nodup_iff.2 (Er (M:=w0.heap.size) hx.2.1.bs.1 hd.bs.1 (fun x hx'=>(hx.2.1.bs.2 x hx').2) (fun x hx'=>(hd.bs.2 x hx').1));refine⟨⟨by rw[el];exact k1,h.ap.setT h0.st ht (x:=⟨X.id,b,d,X.b2,X.c2,X.own,X.made⟩) hcb (fun y hy=>?_) hi (fun y hy=> .inl (by rw[<-hX];exact hy)),by rw[el];exact(h.wk.other (Ne.symm h.setP.1) _).other (Ne.symm h.setP.1) _,h.lp⟩,hg,cur,hc⟩;rcases List.mem_append.1 hy with hy|hy
 ·exact .inr (hd.bs.2 y hy).1
 ·exact .inl (by rw[<-hX];exact List.mem_append.2 (.inr hy))
def Tryz.compA_ren:Go.Shelf.Ren:=⟨fun|43=>170|n=>n,fun|22=>40|23=>2|3=>3|4=>4|0=>0|n=>n,fun|n=>n⟩
theorem Tryz.compA:Go.Proofs.SlLaysN.n43 prog Tryz.compA_ren:={
 mixed:=by kernel_rfl
 f43:=⟨Tryz.f170.name,by decide,func170.trans (congrArg some (by kernel_rfl))⟩
 t0:=underlying0
 a0:=isAgg0
 z0:=sizeOf0
 v0:=zeroValue0
 t3:=underlying3
 a3:=isAgg3
 z3:=sizeOf3
 v3:=zeroValue3
 t4:=underlying4
 a4:=isAgg4
 z4:=sizeOf4
 v4:=zeroValue4
 t22:=underlying40
 a22:=isAgg40
 z22:=sizeOf40
 v22:=zeroValue40
 t23:=underlying2
 a23:=isAgg2
 z23:=sizeOf2
 v23:=zeroValue2
 i23:=by kernel_rfl}

open Go.Sort
theorem UH{w:World}{g n:Nat}{cur:Array Value}{e:TypeId}{fr:Nat×Nat}(d:Array Int)(hb:w.heap[g]? =some (.cells cur e fr)):
 (putRow (Value.int .i64) (Sort.ahead w n) g 0 d).heap[g]? =some (.cells (putCells (Value.int .i64) 0 d cur) e fr):=by
 simp[putRow,mapBlock,Sort.ahead,Array.getElem?_modify,hb,onCells]
theorem TF{w:World}{g n:Nat}(d:Array Int):w.grownBy (putRow (Value.int .i64) (Sort.ahead w n) g 0 d) (some g):=by
 refine⟨rfl,rfl,rfl,by simp[Sort.ahead],fun k hk hne=>?_⟩;have:g≠k:=fun e=>hne (by rw[e]);simp[putRow,mapBlock,Sort.ahead,Array.getElem?_modify,this]
theorem Ss:∀{L:List (List Nat)},L.flatten.Nodup->∀{i j:Nat}{a b:List Nat}{x:Nat},L[i]? =some a->L[j]? =some b->i≠j->x∈a->x∈b->False
 |[],_,i,_,_,_,_,h,_,_,_,_=>by simp at h
 |l::r,hn,i,j,a,b,x,hi,hj,ne,ha,hb=>by
  rw[List.flatten_cons,List.nodup_append]at hn;obtain⟨_,h2,h3⟩:=hn;have up:∀{k:Nat}{c:List Nat},r[k]? =some c->∀y∈c,y∈r.flatten:=fun{k c} hk y hy=>List.mem_flatten.2 ⟨c,List.mem_of_getElem? hk,hy⟩;match i,j with
  |0,0=>exact ne rfl
  |0,j+1=>
   simp at hi;subst hi;simp at hj;exact h3 x ha x (up hj x hb) rfl
  |i+1,0=>
   simp at hj;subst hj;simp at hi;exact h3 x hb x (up hi x ha) rfl
  |i+1,j+1=>
   simp at hi hj;exact Ss h2 hi hj (by omega) ha hb
section
variable {w w':World}{B b m:Nat}{F:Nat->Value}
end

theorem Nf(c:AM)(w:World)(hc:c.at w)(hn:c.n<=1048576):
 Calls prog 93 #[.slice c.a c.n c.k] w fun e w'=>∃(a:Option Addr) (k:Nat),e= .returned (.slice a c.n k)/\Au w' w (.slice a c.n k) ((List.range c.n).map c.h)/\Below w w w':=by
 obtain⟨a,n,cap,f⟩:=c;obtain⟨hm,hc⟩:=hc;simp only at hm hc hn ⊢;have L0:=hc.intL;have el:((List.range n).map f).length=n:=by simp
 have L:Hid (Bh w a n (((List.range n).map f).map (Value.int .i64))):=hid (by unfold De at L0;rw[el]at L0;exact L0);clear hc L0;go_enter func93,ntmps93
 go_wp2_with(refine Bf underlying40 Tryz.info2 rfl (by omega) _ rfl _ _ rfl w (.slice none 0 0) 0 [] rfl (World.ownsRow_nil _ _ _ _) a n cap (((List.range n).map f).map (Value.int .i64)) rfl (by simp) L (fun u hu=>by obtain⟨y,_,rfl⟩:=List.mem_map.1 hu;rfl) (by omega) (by omega) (Nat.le_refl _) ?_;intro a3 c3 w3 o3 g3;rw[Nat.zero_add,List.nil_append]at o3;rw[Nat.zero_add])
 go_ret;exact⟨a3,c3,rfl,by unfold Au;rw[el];exact o3,below_grown g3 (Nat.le_refl _) (fun j hj=>by cases hj)⟩
theorem Px(l:List Int):(Lib.compact l).length<=l.length:=by
 unfold Lib.compact Lib.compactUpTo;rw[List.length_map];exact Nat.le_trans (List.length_filter_le _ _) (by simp)
theorem Qn(B c:Nat)(a:Option Addr)(l:List Int)(w:World)(h:Au w B (.slice a l.length c) l)(hl:l.length<=100000):
 Calls prog 170 #[.slice a l.length c] w fun e w'=>e= .returned (.slice a (Lib.compact l).length c)/\Au w' B (.slice a (Lib.compact l).length c) (Lib.compact l)/\w.grownBy w' (Value.slice a l.length c).ownBlock:=by
 rcases h.2 with⟨hv,hn⟩|⟨g,cap,cur,hv,hB,hb,h1,h2,h3,h4⟩
 ·have e0:l=[]:=List.eq_nil_of_length_eq_zero hn;subst e0;have hh:Calls prog 170 #[.slice a 0 c] w _:=AnyG.slices_Compact_int_empty Tryz.compA a c w;refine hh.mono ?_;rintro e w' ⟨rfl,rfl⟩;have e0:Lib.compact ([]:List Int)=[]:=rfl;rw[e0];exact⟨rfl,h,⟨rfl,rfl,rfl,Nat.le_refl _,fun _ _ _=>rfl⟩⟩
 ·simp only[Value.slice.injEq]at hv;obtain⟨rfl,_,rfl⟩:=hv;have hh:Calls prog 170 #[.slice (some ⟨g,0,none⟩) l.length c] w _:=AnyG.slices_Compact_int Tryz.compA g 0 c l w (holds_of_blockI hb (by simpa using h4)) (by omega) h1;refine hh.mono ?_;rintro e w' ⟨rfl,q,rfl⟩;have cl:=Px l;have ll:(Lib.compact l++List.replicate (l.length-(Lib.compact l).length) 0).length=l.length:=by simp;omega
  refine⟨rfl,⟨by simp,.inr ⟨g,c,_,rfl,hB,UH _ hb,by omega,h2,by simp[putCells,h3],?_⟩⟩,TF _⟩;have t:=take_putCellsI cur (Lib.compact l++List.replicate (l.length-(Lib.compact l).length) 0) (by rw[ll];omega);rw[ll]at t;have t2:=congrArg (List.take (Lib.compact l).length) t;rw[List.take_take,Nat.min_eq_left cl,List.map_append,List.take_append_of_le_length (by simp)]at t2;rw[Nat.mul_one];exact t2.trans (List.take_of_length_le (by simp))
theorem Ph(c d:AM)(w:World)(hc:c.at w)(hd:d.at w)(hn:c.n<=1000)(hm:d.n<=1000):
 Calls prog 138 #[.slice c.a c.n c.k,.slice d.a d.n d.k] w fun e w'=>∃(a:Option Addr) (k:Nat) (L:List Int),L=Lib.compact (Cj ((List.range c.n).map c.h++(List.range d.n).map d.h))/\e= .returned (.slice a L.length k)/\Au w' w (.slice a L.length k) L/\Below w w w':=by
 have HD:=hid hd;have CC:=hid (Nf c w hc (by omega));clear hc hd;go_enter func138,ntmps138
 go_wp2_with fail
 refine CC.out.mono ?_;rintro e w1 ⟨a1,k1,rfl,o1,b1⟩;have el:((List.range d.n).map d.h).length=d.n:=by simp
 have el1:((List.range c.n).map c.h).length=c.n:=by simp
 have L0:=(HD.out.below b1).2.intL;have L:Hid (Bh w1 d.a d.n (((List.range d.n).map d.h).map (Value.int .i64))):=hid (by unfold De at L0;rw[el]at L0;exact L0);have O1:=hid o1;have B1:=hid b1;clear L0 o1 b1;have OR:Hid (w1.ownsRow w 2 1 (.slice a1 c.n k1) c.n (((List.range c.n).map c.h).map (Value.int .i64))):=hid (by have:=O1.out;unfold Au at this;rw[el1]at this;exact this);have s1:=B1.out.size;go_wp2_with(refine Bf underlying40 Tryz.info2 rfl (by omega) _ rfl _ _ rfl w (.slice a1 c.n k1) c.n (((List.range c.n).map c.h).map (Value.int .i64)) rfl OR d.a d.n d.k (((List.range d.n).map d.h).map (Value.int .i64)) rfl (by simp) L (fun u hu=>by obtain⟨y,_,rfl⟩:=List.mem_map.1 hu;rfl) (by omega) (by omega) s1 ?_;intro a3 c3 w3 o3 g3;rw[<-List.map_append]at o3)
 obtain⟨S,hS⟩:∃S,S=(List.range c.n).map c.h++(List.range d.n).map d.h:=⟨_,rfl⟩;rw[<-hS]at o3;have LS:Hid (S.length=c.n+d.n):=hid (by rw[hS];simp);have HS:=hid hS;have O3:Hid (Au w3 w (.slice a3 (c.n+d.n) c3) S):=hid (by unfold Au;rw[LS.out];exact o3);have B3:Hid (Below w w w3):=hid (B1.out.trans (below_grown g3 B1.out.size (fun j e=>(World.ownsRow.lt OR j e).1)));have SO:=hid (PF w _ S w3 O3 (by rw[LS.out];omega));clear o3 g3 hS L OR O1 el el1 s1 CC HD B1;refine SO.out.mono ?_;rintro e w4 ⟨rfl,o4,g4⟩;have B4:Hid (Below w w w4):=hid (B3.out.trans (below_grown g4 B3.out.size (fun j e=>(World.ownsRow.lt O3 j e).1)));have E4:Hid (c.n+d.n=(Cj S).length):=hid (by rw[FY,LS.out]);have O4:Hid (Au w4 w (.slice a3 (Cj S).length c3) (Cj S)):=hid (by rw[<-E4.out];exact o4);have CP:Hid (Calls prog 170 #[.slice a3 (c.n+d.n) c3] w4 _):=hid (by rw[E4.out];exact Qn w c3 a3 (Cj S) w4 O4 (by rw[<-E4.out];omega));clear o4 g4 SO O3;go_wp2_with fail
 refine CP.out.mono ?_;rintro e w5 ⟨rfl,o5,g5⟩;have O5:=hid o5;have B5:Hid (Below w w w5):=hid (B4.out.trans (below_grown g5 B4.out.size (fun j e=>(World.ownsRow.lt O4 j e).1)));clear o5 g5;go_wp2;go_ret;exact⟨a3,c3,_,by rw[HS.out],rfl,O5,B5⟩

theorem Au.new{w:World}{B k:Nat}{a:Option Addr}{l:List Int}(h:Au w B (.slice a l.length k) l)(hm:l.length<=maxLen):(⟨a,l.length,k,AJ l⟩:AM).new B w:=
 ⟨⟨hm,(Au.lies h).ints⟩,fun h0=>by have:=Cx h h0;simpa using this⟩
theorem F7.setOwn{w0 wr:World}{B P:Nat}{s:Al}{g ca q co:Nat}{lt:List Ae}{lo:List Ab}{t:Nat}{m:Value}(h0:F7 w0 B P s g ca q co lt lo t m)(h:F7 wr B P s g ca q co lt lo t m){d:AM}(ht:t<lt.length){X:Ae}(hX:X=lt[t])(hd:d.new w0 wr)(hdc:d.n<=d.k/\d.k<=maxLen)(hB:B<=w0.heap.size):
 F7 (wr.setCell ⟨g,t*7+5,none⟩ (.slice d.a d.n d.k)) B P s g ca q co (lt.set t ⟨X.id,X.b1,X.c1,X.b2,X.c2,d,X.made⟩) lo t m/\B<=g/\∃cur,Ah wr g (.cells cur 42):=by
 obtain⟨k1,⟨cur,hc⟩,hg⟩:=h.st.setOwn ht hX (hd.low hB) hdc;have el:(lt.set t (⟨X.id,X.b1,X.c1,X.b2,X.c2,d,X.made⟩:Ae)).length=lt.length:=by simp
 have hn:X.cb.Nodup:=CV (L:=lt.map Ae.cb) (t:=t) (by simp[ht,hX]) h.ap.c;exact⟨⟨by rw[el];exact k1,h.ap.setT h0.st ht (x:=⟨X.id,X.b1,X.c1,X.b2,X.c2,d,X.made⟩) hn (fun b hb=> .inl (by rw[<-hX];exact hb)) hd.bs.1 (fun y hy=> .inr (hd.bs.2 y hy).1),by rw[el];exact h.wk.other (Ne.symm h.setP.1) _,h.lp⟩,hg,cur,hc⟩
def Fx(kind:Int):Nat:=if kind=1 then 199 else if kind=2 then 201 else if kind=3 then 203 else 205
theorem Kr(w:World)(B P:Nat)(s:Al)(g ca q co:Nat)(lt:List Ae)(lo:List Ab)(t c C n:Nat)(ids:Nat->Int)(nb:Nat->Nat)(kv:Nat->Value)(K:Nat->List Int)(h:F7 w B P s g ca q co lt lo t (.map (some c)))(hn:Dw w C c n ids q 0 nb kv K)(hl:n<=lo.length)(hd:∀x∈lo,x.data.size<=maxLen)(id:Int)(hi:(Lit.int .i64 id).wf=true):
 Calls prog 149 #[.pointer (some ⟨P,0,none⟩),.int .i64 id] w fun e w'=>((Bb ids n id=none/\e= .returned .nilIface)∨∃i,Bb ids n id=some i/\e= .returned (.iface (Fx (Aa lo i).kind) (.agg #[.pointer (some ⟨q,i*10,none⟩)])))/\Below w w w':=by
 obtain⟨_,_,_,_,c13⟩:=h.wk.work;have LK:=hn.map.look hi;cases hf:Bb ids n id with
 |none=>
  rw[hf]at LK;simp only[Option.map_none]at LK;go_enter func149,ntmps149
  go_wp2;go_ret;exact⟨.inl ⟨by first|trivial|rfl,rfl⟩,Below.refl _ _⟩
 |some i=>
  rw[hf]at LK;simp only[Option.map_some]at LK;obtain⟨hin,_⟩:=Az hf;obtain⟨z0,z1⟩:=(hn.blk i hin).two;rw[Nat.zero_add]at z0;obtain⟨CW,gl⟩:=h.st.cell10 (t:=i) (by omega) hd;have eo:lo[i]'(by omega)=Aa lo i:=by simp[Aa,show i<lo.length by omega]
  rw[eo]at CW;have nl:nb i<w.heap.size:=(hn.blk i hin).lt;have k1:w.cell? ⟨q,i*10+1,none⟩=some (.int .i64 (Aa lo i).kind):=CW.c1;have n1:No (.cells #[.pointer (some ⟨q,i*10,none⟩)] 197):=⟨⟩;have e0:(w.alloc n1).cell? ⟨nb i,0,none⟩=some (.pointer (some ⟨q,i*10,none⟩)):=(((hn.blk i hin).alloc _).two.1).trans (by rw[Nat.zero_add]);have e1:(w.alloc n1).cell? ⟨q,i*10+1,none⟩=some (.int .i64 (Aa lo i).kind):=(CW.below gl ((Below.refl _ w).alloc (Nat.le_refl _) _)).c1;have BL:=hid ((Below.refl w w).alloc (Nat.le_refl _) n1);clear CW eo;obtain⟨kd,hk⟩:∃kd,(Aa lo i).kind=kd:=⟨_,rfl⟩;rw[hk]at k1 e1;have HK:=hid hk;clear hk;by_cases h1:kd=1
  ·subst h1;go_enter func149,ntmps149
   go_wp2;go_ret;exact⟨.inr ⟨i,rfl,by rw[HK.out];rfl⟩,BL⟩
  ·by_cases h2:kd=2
   ·subst h2;go_enter func149,ntmps149
    go_wp2;go_ret;exact⟨.inr ⟨i,rfl,by rw[HK.out];rfl⟩,BL⟩
   ·by_cases h3:kd=3
    ·subst h3;go_enter func149,ntmps149
     go_wp2;go_ret;exact⟨.inr ⟨i,rfl,by rw[HK.out];rfl⟩,BL⟩
    ·have ty:Fx kd=205:=(by unfold Fx;rw[if_neg h1,if_neg h2,if_neg h3]);go_enter func149,ntmps149
     go_wp2;go_ret;exact⟨.inr ⟨i,rfl,by rw[HK.out,ty];rfl⟩,BL⟩
end Go.Proofs.YtallmkehpfaaeaaGreatDoor
