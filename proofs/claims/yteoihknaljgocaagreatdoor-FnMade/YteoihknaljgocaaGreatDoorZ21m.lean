import Derived.RangeFuncFrom
import Derived.Shelf.SlicesG.Delete
import Derived.Shelf.SlicesG.CompactI
import Derived.Ground.SlgnProg
import Derived.Test.YteoihknaljgocaaGreatDoorZ20m
set_option maxRecDepth 100000
set_option maxHeartbeats 16000000
namespace Go.Proofs.YteoihknaljgocaaGreatDoor
open Go.RowKit Go.Deep Go.Maps Go.Shelf Go.Proofs.Tryz
attribute [local go_sem] Oper.semAt_some
theorem VT(a:Option Addr)(n cap:Nat)(h:Nat->Int)(x:Int)(w:World)(hn:n<=maxLen)(hc:Be w a n h):
 Calls prog 79 #[.slice a n cap,.int .i64 x] w fun e w'=>∃r:Int,e= .returned (.int .i64 r)/\(decide (0<=r)=hasB n h x)/\w'=w:=by
 unfold maxLen at hn;go_enter func79,ntmps79
 go_wp2;go_loop [8] (fun i=>∃k:Nat,k<=n/\i= .int .i64 k/\(∀j,j<k->h j≠x)) (fun i=>n-(intOf i).toNat)
 case atStart=>exact⟨0,Nat.zero_le _,rfl,fun j hj=>by omega⟩
 case round=>
  obtain⟨k,hk,rfl,hall⟩:=hrel;have HA:Hid (∀j,j<k->h j≠x):=hall;clear hall;by_cases hlt':k<n
  ·obtain⟨b,off,rfl,hlt,hcc⟩:=hc (by omega);have g1:=hcc k hlt';clear hcc hc;by_cases t:(x==h k)=true
   ·go_wp2;go_ret;exact⟨_,rfl,by rw[Hb hlt' (by simpa using(beq_iff_eq.1 t).symm)];simp,rfl⟩
   ·have t':(x==h k)=false:=(by simpa using t);clear t;go_wp2;go_round;case rel=>
     refine⟨k+1,by omega,by go_num,fun j hj=>?_⟩;by_cases e:j=k
     ·subst e;intro q;rw[q]at t';simp at t'
     ·exact HA.out j (by omega)
    case measure=>simp[intOf];omega
  ·clear hc;go_wp2;go_ret;have e:k=n:=(by omega);subst e;exact⟨_,rfl,by rw[MO HA.out];simp,rfl⟩
theorem Iz(a:Option Addr)(n cap:Nat)(h:Nat->Int)(x:Int)(w:World)(hn:n<=maxLen)(hc:Be w a n h):
 Calls prog 34 #[.slice a n cap,.int .i64 x] w fun e w'=>e= .returned (.bool (hasB n h x))/\w'=w:=by
 go_enter func34,ntmps34
 go_wp2_with(go_at_call 79;refine(VT _ _ _ h _ _ hn hc).mono ?_;rintro e w' ⟨r,rfl,hr,rfl⟩)
 all_goals
  go_ret;refine⟨Ah ?_,rfl⟩;rw[<-hr];first|done|(simp;done)|(simp;omega)
theorem Pg(ba:Int)(aa:Option Addr)(na ka:Nat)(bb:Int)(ab:Option Addr)(nb kb:Nat)(w:World):
 Calls prog 33 #[.agg #[.int .i64 ba,.slice aa na ka],.agg #[.int .i64 bb,.slice ab nb kb]] w fun e w'=>e= .returned (.func (.func 75) #[] #[.pointer (w),.pointer (some ⟨w.heap.size+1,0,none⟩)])/\
  w'=(w.alloc (.cells #[.int .i64 ba,.slice aa na ka] 30)).alloc (.cells #[.int .i64 bb,.slice ab nb kb] 30):=by
 go_enter func33,ntmps33
 go_wp2;go_ret;exact⟨rfl,rfl⟩
def De(ba:Int)(na:Nat)(fa ga:Nat->Int)(no:Nat)(ho:Nat->Int)(bb:Int)(nb:Nat)(fb gb:Nat->Int):Bool:=
 Bb ba na fa ga&&Bb bb nb fb gb&&Ci no ho&&Cx ba na fa ga no ho bb nb fb gb
theorem NH{ba:Int}{na:Nat}{fa ga:Nat->Int}{bb:Int}{nb:Nat}{fb gb:Nat->Int}{x:Int}(h0:ba<=bb)(h:EZ bb nb fb gb x<EZ ba na fa ga x):
 ((look fa ga na x).isSome||(look fb gb nb x).isSome)=true:=by
 cases h1:look fa ga na x with
 |some v=>simp
 |none=>
  cases h2:look fb gb nb x with
  |some v=>simp
  |none=>simp[EZ,h1,h2]at h;omega
theorem MY{ba:Int}{na:Nat}{fa ga:Nat->Int}{no:Nat}{ho:Nat->Int}{bb:Int}{nb:Nat}{fb gb:Nat->Int}(h0:ba<=bb)
 (h:∀x,Ht ba na fa ga bb nb fb gb x=true->hasB no ho x=true):Cx ba na fa ga no ho bb nb fb gb=true:=by
 refine Pz h0 fun i hi=>?_;unfold IY;by_cases e:EZ bb nb fb gb (glue na fa fb i)<EZ ba na fa ga (glue na fa fb i)
 ·rw[h _ (by unfold Ht;rw[NH h0 e];simpa using e)];rfl
 ·simp[e]
theorem Mw{ba:Int}{na:Nat}{fa ga:Nat->Int}{no:Nat}{ho:Nat->Int}{bb:Int}{nb:Nat}{fb gb:Nat->Int}{x:Int}
 (h:Ht ba na fa ga bb nb fb gb x=true)(ho':hasB no ho x=false):Cx ba na fa ga no ho bb nb fb gb=false:=by
 unfold Ht at h;rw[Bool.and_eq_true,Bool.or_eq_true]at h;have hl:IY ba na fa ga no ho bb nb fb gb x=false:=by unfold IY;rw[ho',h.2];rfl
 rcases h.1 with e|e
 ·obtain⟨i,hi,e⟩:=LX e;exact La (k:=i) (by omega) (by simp only[glue,hi,if_true];rw[e];exact hl)
 ·obtain⟨i,hi,e⟩:=LX e;exact La (k:=na+i) (by omega) (by
   have e1:¬na+i<na:=(by omega);have e2:na+i-na=i:=(by omega);simp only[glue,e1,if_false,e2];rw[e];exact hl)
theorem HI(ba:Int)(aa:Option Addr)(na ka:Nat)(fa ga:Nat->Int)(ao:Option Addr)(no ko:Nat)(ho:Nat->Int)(bb:Int)(ab:Option Addr)(nb kb:Nat)(fb gb:Nat->Int)(w:World)
 (hna:na<=maxLen)(hnb:nb<=maxLen)(hno:no<=maxLen)(hca:AX w aa na fa ga)(hcb:AX w ab nb fb gb)(hco:Be w ao no ho):
 Calls prog 14 #[.agg #[.int .i64 ba,.slice aa na ka],.slice ao no ko,.agg #[.int .i64 bb,.slice ab nb kb]] w fun e w'=>e= .returned (.bool (De ba na fa ga no ho bb nb fb gb))/\Below w w w':=by
 have n2:No (.cells #[.int .i64 ba,.slice aa na ka] 30):=⟨⟩;have n4:No (.cells #[.int .i64 bb,.slice ab nb kb] 30):=⟨⟩;have hb0:=((((Below.refl _ w).alloc nr n2).alloc (by simp) (.cells #[.slice ao no ko] 37)).alloc (by simp;omega) n4).alloc (by simp;omega) (.cells #[.bool false] 4);obtain⟨W0,hW0⟩:∃W0,W0=((((w.alloc n2).alloc (.cells #[.slice ao no ko] 37)).alloc n4).alloc (.cells #[.bool false] 4)):=⟨_,rfl⟩;have y1:W0.cell? ⟨w,0,none⟩=some (.int .i64 ba):=by rw[hW0];go_simp
 have y2:W0.cell? ⟨w,1,none⟩=some (.slice aa na ka):=by rw[hW0];go_simp
 have y3:W0.cell? ⟨w.heap.size+1,0,none⟩=some (.slice ao no ko):=by rw[hW0];go_simp
 have y4:W0.cell? ⟨w.heap.size+1+1,0,none⟩=some (.int .i64 bb):=by rw[hW0];go_simp
 have y5:W0.cell? ⟨w.heap.size+1+1,1,none⟩=some (.slice ab nb kb):=by rw[hW0];go_simp
 have y6:W0.cell? ⟨w.heap.size+1+1+1,0,none⟩=some (.bool false):=by rw[hW0];go_simp
 have y7:W0.frozen? ⟨w.heap.size+1+1+1,0,none⟩=false:=by rw[hW0];go_simp
 have ys:W0.heap.size=w.heap.size+4:=by rw[hW0];simp
 rw[<-hW0]at hb0;have n3:Na #[.int .i64 ba,.slice aa na ka]:=⟨⟩;have n5:Na #[.int .i64 bb,.slice ab nb kb]:=⟨⟩;have HW0:Hid (W0=((((w.alloc (.cells n3 30)).alloc (.cells #[.slice ao no ko] 37)).alloc (.cells n5 30)).alloc (.cells #[.bool false] 4))):=hW0;clear hW0;have ai:Hid (∀W1,Below w w W1->W1.cell? ⟨w.heap.size+1+1+1,0,none⟩=some (.bool false)->De ba na fa ga no ho bb nb fb gb=false->
  ∀tm:Array Value,tm[6]? =some (.pointer (some ⟨w.heap.size+1+1+1,0,none⟩))->bodyPost prog Tryz.f14 (fun e w'=>e= .returned (.bool (De ba na fa ga no ho bb nb fb gb))/\Below w w w') .ret {tmps:=tm,defers:=[]} (W1.setCell ⟨w.heap.size+1+1+1,0,none⟩ (.bool false))):=fun W1 hB hc hf tm ht=>by
  have hc5:=World.cell?_setCell_same' W1 ⟨w.heap.size+1+1+1,0,none⟩ (.bool false) (by rw[hc];rfl);refine bodyPost_ret (v:= .bool false) ?_ rfl ⟨by rw[hf],hB.setCell (p:=⟨w.heap.size+1+1+1,0,none⟩) (by dsimp only;omega) _⟩;simp[results,Tryz.results14,go_sem,ht,hc5]
 by_cases good:Bb ba na fa ga=true/\Bb bb nb fb gb=true/\Ci no ho=true/\ba<=bb
 ·obtain⟨t1,t2,t3,t4⟩:=good;refine(callsIn_wide (n:=4)).1 ?_;refine callsIn_of_wp_marks func14 rfl trivial ?_ rfl;simp only[ntmps14,List.size_toArray,List.length_cons,List.length_nil,Nat.reduceAdd,Nat.reduceSub,Array.replicate_succ,Array.replicate_zero,List.push_toArray,List.append_toArray,List.nil_append,List.cons_append];gi_wp2_with fail;rw[<-HW0.out];refine⟨trivial,?_⟩;refine(callsIn_wide.2 (Ec _ _ _ _ fa ga _ hna (hca.below hb0))).mono ?_;rintro e w1 ⟨rfl,hb1⟩;have z1:w.heap.size+1+1+1<w1.heap.size:=by have:=hb1.size;omega
  have B1:Below w w w1:=hb0.trans (hb1.mono (by omega));have x1:=(hb1.cell (p:=⟨w,0,none⟩) (by dsimp only;omega)).trans y1;have x2:=(hb1.cell (p:=⟨w,1,none⟩) (by dsimp only;omega)).trans y2;have x3:=(hb1.cell (p:=⟨w.heap.size+1,0,none⟩) (by dsimp only;omega)).trans y3;have x4:=(hb1.cell (p:=⟨w.heap.size+1+1,0,none⟩) (by dsimp only;omega)).trans y4;have x5:=(hb1.cell (p:=⟨w.heap.size+1+1,1,none⟩) (by dsimp only;omega)).trans y5;have x6:=(hb1.cell (p:=⟨w.heap.size+1+1+1,0,none⟩) (by dsimp only;omega)).trans y6;have x7:=(hb1.frozen (p:=⟨w.heap.size+1+1+1,0,none⟩) (by dsimp only;omega)).trans y7;clear y1 y2 y3 y4 y5 y6 y7 hb1;gi_wp2_with fail;refine⟨trivial,?_⟩;refine(callsIn_wide.2 (Ec _ _ _ _ fb gb _ hnb (hcb.below B1))).mono ?_;rintro e w2 ⟨rfl,hb2⟩;have z2:w.heap.size+1+1+1<w2.heap.size:=by have:=hb2.size;omega
  have B2:Below w w w2:=B1.trans (hb2.mono (by omega));have u1:=(hb2.cell (p:=⟨w,0,none⟩) (by dsimp only;omega)).trans x1;have u2:=(hb2.cell (p:=⟨w,1,none⟩) (by dsimp only;omega)).trans x2;have u3:=(hb2.cell (p:=⟨w.heap.size+1,0,none⟩) (by dsimp only;omega)).trans x3;have u4:=(hb2.cell (p:=⟨w.heap.size+1+1,0,none⟩) (by dsimp only;omega)).trans x4;have u5:=(hb2.cell (p:=⟨w.heap.size+1+1,1,none⟩) (by dsimp only;omega)).trans x5;have u6:=(hb2.cell (p:=⟨w.heap.size+1+1+1,0,none⟩) (by dsimp only;omega)).trans x6;have u7:=(hb2.frozen (p:=⟨w.heap.size+1+1+1,0,none⟩) (by dsimp only;omega)).trans x7;clear x1 x2 x3 x4 x5 x6 x7 hb2;gi_wp2_with fail;refine⟨trivial,?_⟩;refine(callsIn_wide.2 (Iu _ _ _ ho _ hno (hco.below B2))).mono ?_;rintro e w3 ⟨rfl,rfl⟩;gi_wp2_with fail;refine⟨trivial,?_⟩;refine(callsIn_wide.2 (Pg _ _ _ _ _ _ _ _ _)).mono ?_;rintro e w4 ⟨rfl,h4⟩;have c1:w4.cell? ⟨w3,0,none⟩=some (.int .i64 ba):=by rw[h4];go_simp
  have c2:w4.cell? ⟨w3,1,none⟩=some (.slice aa na ka):=by rw[h4];go_simp
  have c3:w4.cell? ⟨w3.heap.size+1,0,none⟩=some (.int .i64 bb):=by rw[h4];go_simp
  have c4:w4.cell? ⟨w3.heap.size+1,1,none⟩=some (.slice ab nb kb):=by rw[h4];go_simp
  have z4:w4.heap.size=w3.heap.size+2:=by rw[h4];simp
  have hb4:Below w3 w3 w4:=by rw[h4];exact(Bf _ _).alloc (by simp) _
  clear h4;have B4:Below w w w4:=B2.trans (hb4.mono (by omega));have x1:=(hb4.cell (p:=⟨w,0,none⟩) (by dsimp only;omega)).trans u1;have x2:=(hb4.cell (p:=⟨w,1,none⟩) (by dsimp only;omega)).trans u2;have x3:=(hb4.cell (p:=⟨w.heap.size+1,0,none⟩) (by dsimp only;omega)).trans u3;have x4:=(hb4.cell (p:=⟨w.heap.size+1+1,0,none⟩) (by dsimp only;omega)).trans u4;have x5:=(hb4.cell (p:=⟨w.heap.size+1+1,1,none⟩) (by dsimp only;omega)).trans u5;have x6:=(hb4.cell (p:=⟨w.heap.size+1+1+1,0,none⟩) (by dsimp only;omega)).trans u6;have x7:=(hb4.frozen (p:=⟨w.heap.size+1+1+1,0,none⟩) (by dsimp only;omega)).trans u7;clear u1 u2 u3 u4 u5 u6 u7 hb4;gi_wp2_with fail;have hLt:JA w4 w3 (w3.heap.size+1) ba aa na ka fa ga bb ab nb kb fb gb:=⟨by omega,by omega,c1,c2,c3,c4,hca.below B4,hcb.below B4⟩;have ma:na<=1048576:=by have:=(Lo t1).2.1;omega
  have mb:nb<=1048576:=by have:=(Lo t2).2.1;omega
  have n1:Na #[.pointer (w3),.pointer (some ⟨w3.heap.size+1,0,none⟩)]:=⟨⟩;have hseq:SeqStopsK Fence.wide 3 prog 75 n1 (fun x:Int=>#[Value.int .i64 x]) BF
   (fun xs=>∀x,x∈xs↔Ht ba na fa ga bb nb fb gb x=true) (fun pre=>∀x,x∈pre->Ht ba na fa ga bb nb fb gb x=true) (na+nb) w4:=fun l J Jx W hW hJ hJx hY h0=>
   callsIn_wide.2 (OQ l w3 (w3.heap.size+1) ba aa na ka fa ga bb ab nb kb fb gb J Jx W ma mb (SR t1) (SR t2) (hLt.below hW) hJ hY h0)
  clear c1 c2 c3 c4 hLt x1 x2 x4 x5;refine wpIn_rangeFunc_ownF rfl (by omega) (gf:=75) (lb:=#[.pointer (w3),.pointer (some ⟨w3.heap.size+1,0,none⟩)]) rfl trivial (enters_of func75 (by kernel_rfl) rfl)
   hseq BF.trans (BF.book (w:=w4)) (Below.refl _ _) (fun _=>rfl)
   (fun pre W=>((∀y,y∈pre->hasB no ho y=true)/\W.cell? ⟨w.heap.size+1,0,none⟩=some (.slice ao no ko)/\W.cell? ⟨w.heap.size+1+1+1,0,none⟩=some (.bool false)/\W.frozen? ⟨w.heap.size+1+1+1,0,none⟩=false)/\Below w w W)
   (fun c pre W=>(c= .ret/\(∃y,y∈pre/\hasB no ho y=false)/\W.cell? ⟨w.heap.size+1+1+1,0,none⟩=some (.bool false))/\Below w w W)
   (OwnFrom.and (Own.from (fun s A B row hs hg hr=>⟨hs.1,cell_kept hs.2.1 hg hr,cell_kept hs.2.2.1 hg hr,(frozen_kept hs.2.2.1 hg hr).trans hs.2.2.2⟩) _) (ownFrom_below nr (by omega)))
   (fun c=>OwnFrom.and (Own.from (fun s A B row hs hg hr=>⟨hs.1,hs.2.1,cell_kept hs.2.2 hg hr⟩) _) (ownFrom_below nr (by omega)))
   ⟨⟨by simp,x3,x6,x7⟩,B4⟩
   (fun x=>{tmps:=#[.agg n3,.slice ao no ko,.agg n5,.pointer (w),.pointer (some ⟨w.heap.size+1,0,none⟩),.pointer (some ⟨w.heap.size+1+1,0,none⟩),.pointer (some ⟨w.heap.size+1+1+1,0,none⟩),.int .i64 x,.agg n3,.bool true,.bool false,.bool false,.agg n5,.bool true,.bool false,.bool false,.bool false,.slice ao no ko,.bool true,.bool false,.bool false,.bool false,.pointer (w),.int .i64 ba,.pointer (some ⟨w.heap.size+1+1,0,none⟩),.int .i64 bb,.bool (decide (bb<ba)),.bool (decide (bb<ba)),.agg n3,.agg n5,.func (.func 75) #[] n1,.int .i64 x,undef,undef,undef,undef],defers:=[]}) ?assign ?body ?done ?stop
  case assign=>
   intro l x W K hK;gi_wp2;exact hK
  case body=>
   rintro l pre x W ⟨⟨hp,hcw,hcr,hfr⟩,hB⟩ _;have HP:Hid (∀y,y∈pre->hasB no ho y=true):=hp;clear hp;have hcon:=Iz ao no ko ho x W hno (hco.below hB);gi_wp2_with fail;refine⟨trivial,?_⟩;refine(CallsIn.inRound l (callsIn_wide.2 hcon)).mono ?_;clear hcon;rintro e W1 ⟨rfl,rfl⟩;cases hx:hasB no ho x with
   |true=>
    have HX:Hid (hasB no ho x=true):=hx;clear hx;gi_wp2;exact⟨KeepsOthers.refl _,BF.refl _,⟨fun y hy=>(List.mem_append.1 hy).elim (HP y) (fun e=>by simp at e;subst e;exact HX.out),hcw,hcr,hfr⟩,hB⟩
   |false=>
    have HX:Hid (hasB no ho x=false):=hx;clear hx;gi_wp2;exact⟨KeepsOthers.setCell _ _ _,⟨rfl,⟨x,List.mem_append.2 (.inr (by simp)),HX⟩,World.cell?_setCell_same' _ _ _ (by rw[hcr];rfl)⟩,hB.setCell (p:=⟨w.heap.size+1+1+1,0,none⟩) (by dsimp only;omega) _⟩
  case done=>
   rintro D ys W hD hS ⟨⟨hne,_,hcr,hfr⟩,hB⟩ hK;have hflow:De ba na fa ga no ho bb nb fb gb=true:=by
    have:=MY (no:=no) (ho:=ho) t4 (fun x hx=>hne x ((hS x).2 hx));simp[De,t1,t2,t3,this]
   have HF:Hid (De ba na fa ga no ho bb nb fb gb=true):=hflow;clear hflow hS hne;gi_wp2;have hK':=(KeepsOthers.setCell W ⟨w.heap.size+1+1+1,0,none⟩ (.bool true)).same D _ hK rfl;refine⟨by simp,.inl ⟨_,_,rfl,run_takeDeferred hK',?_⟩⟩;have hc5:=cell_kept (World.cell?_setCell_same' W ⟨w.heap.size+1+1+1,0,none⟩ (.bool true) (by rw[hcr];rfl)) (grownBy_putObj' _ D (.deferred none)) (fun r e=>by cases e;exact⟨_,hK',rfl⟩);refine⟨.bool true,?_,by rw[HF.out],(hB.setCell (p:=⟨w.heap.size+1+1+1,0,none⟩) (by dsimp only;omega) _).trans (belowK_b (w:=w) nr _ D _ _ (by omega) hK' rfl rfl)⟩;simp[results,Tryz.results14,go_sem,hc5]
  case stop=>
   rintro D c pre W hD hpre ⟨⟨rfl,⟨y,hy,hno'⟩,hcr⟩,hB⟩ hK;have HF:Hid (De ba na fa ga no ho bb nb fb gb=false):=(by show _=_;simp[De,Mw (hpre y hy) hno']);clear hpre;gi_wp2;refine⟨by simp,.inl ⟨_,_,rfl,run_takeDeferred hK,?_⟩⟩;have hc5:=cell_kept hcr (grownBy_putObj' _ D (.deferred none)) (fun r e=>by cases e;exact⟨_,hK,rfl⟩);refine⟨.bool false,?_,by rw[HF.out],hB.trans (belowK_b (w:=w) nr W D _ _ (by omega) hK rfl rfl)⟩;simp[results,Tryz.results14,go_sem,hc5]
 ·go_enter func14,ntmps14
  go_wp2_with fail
  rw[<-HW0.out];refine(Ec _ _ _ _ fa ga _ hna (hca.below hb0)).mono ?_;rintro e w1 ⟨rfl,hb1⟩;have z1:w.heap.size+1+1+1<w1.heap.size:=by have:=hb1.size;omega
  have B1:Below w w w1:=hb0.trans (hb1.mono (by omega));have x1:=(hb1.cell (p:=⟨w,0,none⟩) (by dsimp only;omega)).trans y1;have x2:=(hb1.cell (p:=⟨w,1,none⟩) (by dsimp only;omega)).trans y2;have x3:=(hb1.cell (p:=⟨w.heap.size+1,0,none⟩) (by dsimp only;omega)).trans y3;have x4:=(hb1.cell (p:=⟨w.heap.size+1+1,0,none⟩) (by dsimp only;omega)).trans y4;have x5:=(hb1.cell (p:=⟨w.heap.size+1+1,1,none⟩) (by dsimp only;omega)).trans y5;have x6:=(hb1.cell (p:=⟨w.heap.size+1+1+1,0,none⟩) (by dsimp only;omega)).trans y6;have x7:=(hb1.frozen (p:=⟨w.heap.size+1+1+1,0,none⟩) (by dsimp only;omega)).trans y7;clear y1 y2 y3 y4 y5 y6 y7 hb1;by_cases t1:Bb ba na fa ga=true
  ·go_wp2_with fail
   refine(Ec _ _ _ _ fb gb _ hnb (hcb.below B1)).mono ?_;rintro e w2 ⟨rfl,hb2⟩;have z2:w.heap.size+1+1+1<w2.heap.size:=(by have:=hb2.size;omega);have B2:Below w w w2:=B1.trans (hb2.mono (by omega));have u1:=(hb2.cell (p:=⟨w,0,none⟩) (by dsimp only;omega)).trans x1;have u2:=(hb2.cell (p:=⟨w,1,none⟩) (by dsimp only;omega)).trans x2;have u3:=(hb2.cell (p:=⟨w.heap.size+1,0,none⟩) (by dsimp only;omega)).trans x3;have u4:=(hb2.cell (p:=⟨w.heap.size+1+1,0,none⟩) (by dsimp only;omega)).trans x4;have u5:=(hb2.cell (p:=⟨w.heap.size+1+1,1,none⟩) (by dsimp only;omega)).trans x5;have u6:=(hb2.cell (p:=⟨w.heap.size+1+1+1,0,none⟩) (by dsimp only;omega)).trans x6;have u7:=(hb2.frozen (p:=⟨w.heap.size+1+1+1,0,none⟩) (by dsimp only;omega)).trans x7;clear x1 x2 x3 x4 x5 x6 x7 hb2;by_cases t2:Bb bb nb fb gb=true
   ·go_wp2_with fail
    refine(Iu _ _ _ ho _ hno (hco.below B2)).mono ?_;rintro e w3 ⟨rfl,rfl⟩;by_cases t3:Ci no ho=true
    ·have t4:bb<ba:=by
      by_cases q:ba<=bb
      ·exact absurd ⟨t1,t2,t3,q⟩ good
      ·omega
     have HT:Hid (De ba na fa ga no ho bb nb fb gb=false):=(by show _=_;simp[De,Mp t4]);clear good;go_wp2;exact ai.out _ B2 u6 HT _ rfl
    ·have t3':Ci no ho=false:=(by simpa using t3);clear t3 good;have HT:Hid (De ba na fa ga no ho bb nb fb gb=false):=(by show _=_;simp[De,t3']);go_wp2;exact ai.out _ B2 u6 HT _ rfl
   ·have t2':Bb bb nb fb gb=false:=(by simpa using t2);clear t2 good;have HT:Hid (De ba na fa ga no ho bb nb fb gb=false):=(by show _=_;simp[De,t2']);go_wp2;exact ai.out w2 B2 u6 HT _ rfl
  ·have t1':Bb ba na fa ga=false:=(by simpa using t1);clear t1 good;have HT:Hid (De ba na fa ga no ho bb nb fb gb=false):=(by show _=_;simp[De,t1']);go_wp2;exact ai.out w1 B1 x6 HT _ rfl
open Go Go.BigFrame
def Kr(w:World)(E:Nat->Addr):Prop:=∀i,i<14->i≠3->w.cell? ⟨i,0,none⟩=some (.iface 259 (.pointer (some (E i))))/\i<w.heap.size
theorem Kr.below{w w':World}{E:Nat->Addr}{B:Nat}(h:Kr w E)(hB:14<=B)(hb:Below B w w'):Kr w' E:=fun i h1 h2=>by
 obtain⟨a,b⟩:=h i h1 h2;exact⟨by rw[hb.cell (show i<B by omega)];exact a,Nat.lt_of_lt_of_le b hb.size⟩
def Told(w:World)(B:Nat)(E:Nat->Addr)(v:Value)(c:Int):Prop:=(c=0/\v= .nilIface)∨(c≠0/\∃r i,v= .iface 61 (.pointer (some ⟨r,0,none⟩))/\Ag w r (.cells #[.int .i64 c,.iface 259 (.pointer (some (E i)))] 66)/\i≠0/\i<14/\i≠3/\B<=r)
theorem Ex.setLab{w0 wr:World}{B P:Nat}{s:Al}{g ca q co:Nat}{lt:List Ae}{lo:List Ab}{t:Nat}{m:Value}(h0:Ex w0 B P s g ca q co lt lo t m)(h:Ex wr B P s g ca q co lt lo t m){b:Int}{d:Ar}(ht:t<lt.length){X:Ae}(hX:X=lt[t])(hd:d.new w0 wr)(hB:B<=w0.heap.size):
 Ex ((wr.setCell ⟨g,t*7+1,none⟩ (.int .i64 b)).setCell ⟨g,t*7+2,none⟩ (.slice d.a d.n d.k)) B P s g ca q co (lt.set t ⟨X.id,b,d,X.b2,X.c2,X.own,X.made⟩) lo t m/\B<=g/\∃cur,Ag wr g (.cells cur 39):=by
 obtain⟨k1,⟨cur,hc⟩,hg⟩:=h.st.setLab (b:=b) ht hX (hd.low hB);have el:(lt.set t (⟨X.id,b,d,X.b2,X.c2,X.own,X.made⟩:Ae)).length=lt.length:=by simp
 have hn:X.cb.Nodup:=Dj (L:=lt.map Ae.cb) (t:=t) (by simp[ht,hX]) h.ap.c;have hi:X.own.bs.Nodup:=Dj (L:=lt.map fun x=>x.own.bs) (t:=t) (by simp[ht,hX]) h.ap.i;have hx:=h0.st.tn _ (List.getElem_mem ht);rw[<-hX]at hx;have hcb:(d.bs++X.c2.bs).Nodup:=List.perm_append_comm.nodup_iff.2 (Dh (M:=w0.heap.size) hx.2.1.bs.1 hd.bs.1 (fun x hx'=>(hx.2.1.bs.2 x hx').2) (fun x hx'=>(hd.bs.2 x hx').1));refine⟨⟨by rw[el];exact k1,h.ap.setT h0.st ht (x:=⟨X.id,b,d,X.b2,X.c2,X.own,X.made⟩) hcb (fun y hy=>?_) hi (fun y hy=> .inl (by rw[<-hX];exact hy)),by rw[el];exact(h.wk.other (Ne.symm h.setP.1) _).other (Ne.symm h.setP.1) _,h.lp⟩,hg,cur,hc⟩;rcases List.mem_append.1 hy with hy|hy
 ·exact .inr (hd.bs.2 y hy).1
 ·exact .inl (by rw[<-hX];exact List.mem_append.2 (.inr hy))
theorem VG(E:Nat->Addr)(w:World)(B P:Nat)(s:Al)(g ca q co:Nat)(lt:List Ae)(lo:List Ab)(t:Nat)(m:Value)(h:Ex w B P s g ca q co lt lo t m)(he:Kr w E)(h14:14<=B)(hB:B<=w.heap.size)(hs:∀W,Below B w W->s.at W)(ht:t<lt.length)(X:Ae)(hX:X=lt[t])(f1 f2:Bool)
 (F1:∀W,Below w w W->Calls prog 14 #[.agg #[X.b1,X.c1],X.own,.agg #[s.b1,s.c1]] W fun e w'=>e= .returned (.bool f1)/\Below W W w')
 (F2:∀W,Below w w W->Calls prog 14 #[.agg #[s.b1,s.c1],X.own,.agg #[X.b2,X.c2]] W fun e w'=>e= .returned (.bool f2)/\Below W W w')(hf:Ib X s=(f1&&f2))(sn:s.c1.n<=1048576):
 Calls prog 90 #[.pointer P] w fun e w'=>∃(v:Value) (x:Ae) (c:Int),e= .returned v/\Ex w' B P s g ca q co (lt.set t x) lo t m/\Below B w w'/\Told w' B E v c/\((c=4/\Ib X s=false/\x=X)∨(c=0/\Ib X s=true/\∃d:Ar,s.c1.same d/\x=⟨X.id,s.b1,d,X.b2,X.c2,X.own,X.made⟩)):=by
 obtain⟨CW,gl⟩:=h.st.jJ ht;rw[<-hX]at CW;obtain⟨⟨s0,s1,s2,s3,s4,s5,s6,s7,s8,s9⟩,_,_,c12,_⟩:=Ag.jZ (show Ag w.drew P _ from h.wk);obtain⟨⟨k0,k1,k2,k3,k4,k5,k6,k7,k8,k9⟩,_,_,v12,_⟩:=h.wk.jZ;have pl:P<w.heap.size:=h.wk.lt;have n1:¬P=w.heap.size:=by omega
 have n2:¬w.heap.size=P:=by omega
 have HW:=hid h;have HE:=hid he;have HF1:=hid F1;have HF2:=hid F2;have HX:=hid hX;have HS:=hid hs;clear h he F1 F2 hX hs;go_enter func90,ntmps90
 go_upto_region 1 with fail
 go_cut[3,4] from 5 (fun a b wc=>a= .pointer (w)/\b= .pointer (some ⟨g,t*7,none⟩)/\wc=(w.alloc (.cells s 32)).drew)
 case first=>
  go_region_law fail
  all_goals(
   go_wp2_with fail
   go_meet;case rel=>exact⟨rfl,rfl,rfl⟩)
 case rest=>
  obtain⟨rfl,rfl,rfl⟩:=hcut;have n3:No (.cells s 32):=⟨⟩;have b0:Below w w (w.alloc n3).drew:=(Bf w _).drew;have A0:Hid (Ag (w.alloc n3).drew w n3):=hid (show Ag (w.alloc n3) w _ from Ag.new w _);have H0:=hid (HW.out.below b0);have B0:=hid b0;have C0:=hid (CW.below gl b0);have gl0:g<((w.alloc n3).drew).heap.size:=Nat.lt_of_lt_of_le gl b0.size;clear s0 s1 s2 s3 s4 s5 s6 s7 s8 s9 c12 k0 k1 k2 k3 k4 k5 k6 k7 k8 k9 v12 CW n1 n2 b0;generalize hV:(w.alloc n3).drew=V at *;clear hV;have V0:=hid (Below.refl V V);have EF:Hid (∀args w,(callFunc 14 args).run prog w= .ok (.enter 14 args) w):=hid (enters_of func14 (by kernel_rfl) rfl);go_upto_region 2 with fail
  go_cut[38] from 5 (fun v wc=>v= .bool (!(f1&&f2))/\Below V V wc)
  case first=>
   obtain⟨x0,x1,x2,x3,x4,x5,x6,x7,x8,x9⟩:=Ag.jE (show Ag V.drew w _ from A0.out);have C1:Fi V.drew g (t*7) X:=C0.out.below gl0 (Below.refl _ V).drew;have y1:V.drew.cell? ⟨g,t*7+1,none⟩=some (.int .i64 X.b1):=C1.c1;have y2:V.drew.cell? ⟨g,t*7+1+1,none⟩=some (.slice X.c1.a X.c1.n X.c1.k):=C1.c2;have y3:V.drew.cell? ⟨g,t*7+3,none⟩=some (.int .i64 X.b2):=C1.c3;have y4:V.drew.cell? ⟨g,t*7+3+1,none⟩=some (.slice X.c2.a X.c2.n X.c2.k):=C1.c4;have y5:V.drew.cell? ⟨g,t*7+5,none⟩=some (.slice X.own.a X.own.n X.own.k):=C1.c5;have D0:=hid (Below.refl V V).drew;have W0:=hid (Af B0 (Below.refl V V).drew);have n5:Na #[X.b1,X.c1]:=⟨⟩;have n6:Na #[s.b1,s.c1]:=⟨⟩;have P1:Hid (Calls prog 14 #[.agg n5,X.own,.agg n6] V.drew fun e w'=>∃v,e= .returned v/\(v= .bool f1/\Below V.drew.heap.size V.drew w')):=hid ((HF1 _ W0).mono fun _ _ h=>⟨_,h.1,rfl,h.2⟩);have BX:Hid (∀W,Below V V W->Ag W w n3/\Fi W g (t*7) X):=hid (fun W hW=>⟨A0.out.below hW,C0.out.below gl0 hW⟩);refine Am 26 (fun W=>Below V V W) (by kernel_rfl) ?_;have n4:Nv (.pointer (some ⟨g,t*7,none⟩)):=⟨⟩;refine tr 0 13 n4 D0 ?_;refine tr 1 14 n4 D0 ?_;refine tr 2 15 (.pointer (some ⟨g,t*7+1,none⟩)) D0 ?_;refine tr 3 16 (.agg n5) D0 ?_ (hy:=fun W h=>by have C:=(BX W h).2;have y1:W.cell? ⟨g,t*7+1,none⟩=some (.int .i64 X.b1):=C.c1;have y2:W.cell? ⟨g,t*7+1+1,none⟩=some (.slice X.c1.a X.c1.n X.c1.k):=C.c2;go_simp);refine tr 4 17 n4 D0 ?_;refine tr 5 18 n4 D0 ?_;have n10:Nv (.pointer (some ⟨g,t*7+5,none⟩)):=⟨⟩;refine tr 6 19 n10 D0 ?_;refine tr 7 20 (.slice X.own.a X.own.n X.own.k) D0 ?_ (hy:=fun W h=>by have C:=(BX W h).2;have y5:W.cell? ⟨g,t*7+5,none⟩=some (.slice X.own.a X.own.n X.own.k):=C.c5;go_simp);have n9:Nv (.pointer (some ⟨w,6,none⟩)):=⟨⟩;refine tr 8 21 n9 D0 ?_;refine tr 9 22 (.agg n6) D0 ?_ (hy:=fun W h=>by obtain⟨x0,x1,x2,x3,x4,x5,x6,x7,x8,x9⟩:=(BX W h).1.jE;go_simp);refine Ac (i:=10) (by kernel_rfl) rfl ?_;intro K hK;refine Dg (by rfl) 14 _ _ _ _ (by rfl) EF _ _ _ (by rfl) (by rfl) (by rfl) (some 23) (by rfl) _ P1 ?_;rintro v w1 ⟨rfl,b1⟩;have V1:=hid (Af D0 b1);refine hK _ _ (fun _=>V1) ?_;clear hK K b1;simp only[ap,List.set];refine tr 11 24 (.bool (!f1)) V1 ?_;refine tr 12 25 (.bool (!f1)) V1 ?_;cases f1 with
   |false=>
    refine Ph 12 [(13,26),(14,27),(15,28),(16,29),(17,30),(18,31),(19,32),(20,33),(21,34),(22,35),(23,36),(24,37)] rfl (by kernel_rfl) V1 ?_;simp only[E8,ap,List.set];refine tr 25 38 (.bool true) V1 ?_;refine Aj (by kernel_rfl) ?_ _;go_wp2_with fail
    go_meet;case rel=>exact⟨rfl,V1⟩
   |true=>
    refine tr 13 26 n9 V1 ?_;have n7:Na #[s.b1,s.c1]:=⟨⟩;refine tr 14 27 (.agg n7) V1 ?_ (hy:=fun W h=>by obtain⟨x0,x1,x2,x3,x4,x5,x6,x7,x8,x9⟩:=(BX W h).1.jE;go_simp);refine tr 15 28 n4 V1 ?_;refine tr 16 29 n4 V1 ?_;refine tr 17 30 n10 V1 ?_;refine tr 18 31 (.slice X.own.a X.own.n X.own.k) V1 ?_ (hy:=fun W h=>by have C:=(BX W h).2;have y5:W.cell? ⟨g,t*7+5,none⟩=some (.slice X.own.a X.own.n X.own.k):=C.c5;go_simp);refine tr 19 32 n4 V1 ?_;refine tr 20 33 n4 V1 ?_;refine tr 21 34 (.pointer (some ⟨g,t*7+3,none⟩)) V1 ?_;have n8:Na #[X.b2,X.c2]:=⟨⟩;refine tr 22 35 (.agg n8) V1 ?_ (hy:=fun W h=>by have C:=(BX W h).2;have y3:W.cell? ⟨g,t*7+3,none⟩=some (.int .i64 X.b2):=C.c3;have y4:W.cell? ⟨g,t*7+3+1,none⟩=some (.slice X.c2.a X.c2.n X.c2.k):=C.c4;go_simp);have P2:Hid (Calls prog 14 #[.agg n7,X.own,.agg n8] w1 fun e w'=>∃v,e= .returned v/\(v= .bool f2/\Below w1 w1 w')):=hid ((HF2 _ (Af B0 V1)).mono fun _ _ h=>⟨_,h.1,rfl,h.2⟩);refine Ac (i:=23) (by kernel_rfl) rfl ?_;intro K hK;refine Dg (by rfl) 14 _ _ _ _ (by rfl) EF _ _ _ (by rfl) (by rfl) (by rfl) (some 36) (by rfl) _ P2 ?_;rintro v w2 ⟨rfl,b2⟩;have V2:=hid (Af V1 b2);refine hK _ _ (fun _=>V2) ?_;clear hK K b2;simp only[ap,List.set];refine tr 24 37 (.bool (!f2)) V2 ?_;refine tr 25 38 (.bool (!f2)) V2 ?_;refine Aj (by kernel_rfl) ?_ _;go_wp2_with fail
    go_meet;case rel=>exact⟨rfl,V2⟩
  case rest=>
  obtain⟨rfl,hb⟩:=hcut;rename_i wc;have V1:=hid hb;clear hb;generalize (f1&&f2)=z at *;have HZ:=hid hf;clear hf;have H1:=hid (H0.out.below V1);have B1:=hid (Af B0 V1);cases z with
  |false=>
   have e9:=(HE.out.below h14 (B1.out.mono hB) 9 (by omega) (by omega)).1;go_wp2_with fail
   refine(Bv 259 (.pointer (some (E 9))) wc).mono ?_;rintro e w2 ⟨rfl,rfl⟩;go_wp2;go_ret;have b2:Below wc wc (wc.alloc (.cells #[.int .i64 4,.iface 259 (.pointer (some (E 9)))] 66)):=Bf wc _;refine⟨_,X,4,rfl,by rw[HX.out,Fl];exact H1.out.below b2,(Af B1 b2).mono hB,.inr ⟨by decide,_,9,rfl,Ag.new wc _,by decide,by decide,by decide,Nat.le_trans hB B1.out.size⟩,.inl ⟨rfl,HZ,rfl⟩⟩
  |true=>
   obtain⟨x0,x1,x2,x3,x4,x5,x6,x7,x8,x9⟩:=(A0.out.below V1).jE;go_wp2_with fail
   refine(AW s.b1 s.c1 wc (HS _ (B1.out.mono hB)).1 sn).mono ?_;rintro e w2 ⟨d,rfl,sd,nd,b2⟩;have H2:=hid (H1.out.below b2);obtain⟨S3,hg,cur,hcu⟩:=H1.out.setLab H2 (b:=s.b1) ht HX nd (Nat.le_trans hB B1.out.size);have S3':=hid S3;have B2:=hid ((Af B1 b2).mono hB);have SD:=hid sd;have gf:=hcu.jC;obtain⟨C2,_⟩:=H2.out.st.jJ ht;rw[<-HX.out]at C2;have c1:w2.cell? ⟨g,t*7+1,none⟩=some (.int .i64 X.b1):=C2.c1;have c2:w2.cell? ⟨g,t*7+1+1,none⟩=some (.slice X.c1.a X.c1.n X.c1.k):=C2.c2;clear C2;clear S3 sd nd b2 x0 x1 x2 x3 x4 x5 x6 x7 x8 x9;unfold Ar.val;go_wp2;go_ret;refine⟨_,⟨X.id,s.b1,d,X.b2,X.c2,X.own,X.made⟩,0,rfl,S3',?_,.inl ⟨rfl,rfl⟩,.inr ⟨rfl,HZ,d,SD,rfl⟩⟩;exact(B2.out.setCell hg _).setCell hg _
def Tryz.delA_ren:Go.Shelf.Ren:=⟨fun|45=>131|n=>n,fun|22=>37|23=>2|3=>3|4=>4|0=>0|n=>n,fun|n=>n⟩
theorem Tryz.delA:Go.Proofs.SlLaysN.n45 prog Tryz.delA_ren:={
 mixed:=by kernel_rfl
 f45:=⟨Tryz.f131.name,by decide,func131.trans (congrArg some (by kernel_rfl))⟩
 t0:=underlying0
 a0:=isAgg0
 z0:=sizeOf0
 v0:=zeroValue0
 t3:=underlying3
 a3:=isAgg3
 z3:=sizeOf3
 v3:=zeroValue3
 t4:=underlying4
 a4:=isAgg4
 z4:=sizeOf4
 v4:=zeroValue4
 t22:=underlying37
 a22:=isAgg37
 z22:=sizeOf37
 v22:=zeroValue37
 t23:=underlying2
 a23:=isAgg2
 z23:=sizeOf2
 v23:=zeroValue2
 i23:=by kernel_rfl}
def Tryz.compA_ren:Go.Shelf.Ren:=⟨fun|43=>145|n=>n,fun|22=>37|23=>2|3=>3|4=>4|0=>0|n=>n,fun|n=>n⟩
theorem Tryz.compA:Go.Proofs.SlLaysN.n43 prog Tryz.compA_ren:={
 mixed:=by kernel_rfl
 f43:=⟨Tryz.f145.name,by decide,func145.trans (congrArg some (by kernel_rfl))⟩
 t0:=underlying0
 a0:=isAgg0
 z0:=sizeOf0
 v0:=zeroValue0
 t3:=underlying3
 a3:=isAgg3
 z3:=sizeOf3
 v3:=zeroValue3
 t4:=underlying4
 a4:=isAgg4
 z4:=sizeOf4
 v4:=zeroValue4
 t22:=underlying37
 a22:=isAgg37
 z22:=sizeOf37
 v22:=zeroValue37
 t23:=underlying2
 a23:=isAgg2
 z23:=sizeOf2
 v23:=zeroValue2
 i23:=by kernel_rfl}
theorem Xj(a:Option Addr)(n cap:Nat)(h:Nat->Int)(x:Int)(w:World)(hn:n<=maxLen)(hc:Be w a n h):
 Calls prog 79 #[.slice a n cap,.int .i64 x] w fun e w'=>w'=w/\((e= .returned (.int .i64 (-1))/\hasB n h x=false)∨∃i:Nat,i<n/\h i=x/\(∀j,j<i->h j≠x)/\hasB n h x=true/\e= .returned (.int .i64 i)):=by
 unfold maxLen at hn;go_enter func79,ntmps79
 go_wp2;go_loop [8] (fun i=>∃k:Nat,k<=n/\i= .int .i64 k/\(∀j,j<k->h j≠x)) (fun i=>n-(intOf i).toNat)
 case atStart=>exact⟨0,Nat.zero_le _,rfl,fun j hj=>by omega⟩
 case round=>
  obtain⟨k,hk,rfl,hall⟩:=hrel;have HA:Hid (∀j,j<k->h j≠x):=hall;clear hall;by_cases hlt':k<n
  ·obtain⟨b,off,rfl,hlt,hcc⟩:=hc (by omega);have g1:=hcc k hlt';clear hcc hc;by_cases t:(x==h k)=true
   ·go_wp2;go_ret;exact⟨rfl,.inr ⟨k,hlt',(by simpa using(beq_iff_eq.1 t).symm),HA,Hb hlt' (by simpa using(beq_iff_eq.1 t).symm),rfl⟩⟩
   ·have t':(x==h k)=false:=(by simpa using t);clear t;go_wp2;go_round;case rel=>
     refine⟨k+1,by omega,by go_num,fun j hj=>?_⟩;by_cases e:j=k
     ·subst e;intro q;rw[q]at t';simp at t'
     ·exact HA.out j (by omega)
    case measure=>simp[intOf];omega
  ·clear hc;go_wp2;go_ret;have e:k=n:=(by omega);subst e;exact⟨rfl,.inl ⟨rfl,MO HA⟩⟩
theorem Yj{h:Nat->Int}{c:Int}:∀{n i:Nat},i<n->h i=c->(∀j,j<n->j≠i->h j≠c)->Dc h c n=((List.range n).map h).take i++((List.range n).map h).drop (i+1):=by
 intro n i hi he ho;unfold Dc;have e1:(List.range n).map h=((List.range n).map h).take i++(h i::((List.range n).map h).drop (i+1)):=by
  have hl:i<((List.range n).map h).length:=by simpa using hi
  have:=List.take_append_drop i ((List.range n).map h);rw[List.drop_eq_getElem_cons hl]at this;simpa using this.symm
 have p1:∀y∈((List.range n).map h).take i,y≠c:=fun y hy=>by
  obtain⟨j,hj,rfl⟩:=List.getElem_of_mem hy;simp only[List.length_take,List.length_map,List.length_range]at hj;simp only[List.getElem_take,List.getElem_map,List.getElem_range];exact ho j (by omega) (by omega)
 have p2:∀y∈((List.range n).map h).drop (i+1),y≠c:=fun y hy=>by
  obtain⟨j,hj,rfl⟩:=List.getElem_of_mem hy;simp only[List.length_drop,List.length_map,List.length_range]at hj;simp only[List.getElem_drop,List.getElem_map,List.getElem_range];exact ho _ (by omega) (by omega)
 conv=>lhs;rw[e1]
 rw[List.filter_append,List.filter_cons];have q1:(((List.range n).map h).take i).filter (fun y=> !decide (y=c))=((List.range n).map h).take i:=List.filter_eq_self.2 (fun y hy=>by simp[p1 y hy]);have q2:(((List.range n).map h).drop (i+1)).filter (fun y=> !decide (y=c))=((List.range n).map h).drop (i+1):=List.filter_eq_self.2 (fun y hy=>by simp[p2 y hy]);rw[q1,q2];simp[he]
open Go.Sort
variable {w:World}{g n:Nat}
theorem RV{n:Nat}{cur:Array Value}{e:TypeId}{fr:Nat×Nat}(d:Array Int)(hb:w.heap[g]? =some (.cells cur e fr)):
 (putRow (Value.int .i64) (Sort.ahead w n) g 0 d).heap[g]? =some (.cells (putCells (Value.int .i64) 0 d cur) e fr):=by
 simp[putRow,mapBlock,Sort.ahead,Array.getElem?_modify,hb,onCells]
theorem Pp(d:Array Int):w.grownBy (putRow (Value.int .i64) (Sort.ahead w n) g 0 d) (some g):=by
 refine⟨rfl,rfl,rfl,by simp[Sort.ahead],fun k hk hne=>?_⟩;have:g≠k:=fun e=>hne (by rw[e]);simp[putRow,mapBlock,Sort.ahead,Array.getElem?_modify,this]
theorem Ux(c:AJ)(B:Nat)(w:World)(hc:c.new B w)(hk:c.n<=c.k/\c.k<=maxLen)(i:Nat)(hi:i<c.n):
 Calls prog 131 #[c,.int .i64 i,.int .i64 (i+1)] w fun e w'=>∃b,c.a=some ⟨b,0,none⟩/\e= .returned (.slice c.a (c.n-1) c.k)/\w.grownBy w' (some b)/\(⟨c.a,c.n-1,c.k,AV (((List.range c.n).map c.h).take i++((List.range c.n).map c.h).drop (i+1))⟩:AJ).new B w':=by
 obtain⟨b,m,F,ea,h1,h2,cur,hcur,hsz,hF⟩:=hc.2 (by omega);obtain⟨b',off,ea',hlt,hcc⟩:=hc.1.2 (by omega);rw[ea]at ea';cases ea';have hl:((List.range c.n).map c.h).length=c.n:=by simp
 have hH:Holds (Value.int .i64) w b 0 ((List.range c.n).map c.h).toArray:=fun j hj=>by
  simp only[List.size_toArray,hl]at hj;refine⟨?_,?_⟩
  ·have:=hcc j hj;simpa[hj]using this
  ·simp[World.frozen?,hcur]
 have km:c.k<=9223372036854775807:=by have:=hk.2;unfold maxLen at this;exact this
 have h:Calls prog 131 _ w _:=AnyG.slices_Delete_int Tryz.delA b 0 c.k i (i+1) ((List.range c.n).map c.h) w hH (by rw[hl];exact hk.1) km (by omega) (by rw[hl];omega);rw[hl,show c.n-(i+1-i)=c.n-1 from by omega,show i+1-i=1 from by omega]at h;have ei:((i+1:Nat):Int)=(i:Int)+1:=by omega
 rw[ei]at h;rw[ea];refine h.mono ?_;rintro e w' ⟨rfl,q,rfl⟩;generalize hL:((List.range c.n).map c.h).take i++((List.range c.n).map c.h).drop (i+1)=L;have ll:L.length=c.n-1:=by rw[<-hL];simp;omega
 have hp:=RV (n:=q) (L++List.replicate 1 0).toArray hcur;have cell:∀j,j<c.n-1->(putRow (Value.int .i64) (Sort.ahead w q) b 0 (L++List.replicate 1 0).toArray).cell? ⟨b,0+j,none⟩=some (.int .i64 (AV L j)):=fun j hj=>by
  have hj':j<L.length:=by omega
  have hjc:j<cur.size:=by omega
  simp only[World.cell?,hp];simp[putCells,hjc,show j<L.length+1 by omega,AV,hj']
 refine⟨b,rfl,rfl,Pp _,⟨Nat.le_trans (Nat.sub_le _ _) hc.1.1,fun _=>⟨b,0,rfl,?_,cell⟩⟩,fun _=>⟨b,m,fun k=>((putCells (Value.int .i64) 0 (L++List.replicate 1 0).toArray cur)[k]?).getD undef,rfl,h1,by show c.n-1<=m;omega,⟨_,hp,by simp[putCells,hsz],fun k hk'=>?_⟩⟩⟩
 ·simpa[Sort.ahead]using hlt
 ·have:k<(putCells (Value.int .i64) 0 (L++List.replicate 1 0).toArray cur).size:=by simp[putCells];omega
  show _=some ((putCells (Value.int .i64) 0 (L++List.replicate 1 0).toArray cur)[k]?.getD undef);rw[Array.getElem?_eq_getElem this];rfl
theorem MK:∀{L:List (List Nat)},L.flatten.Nodup->∀{i j:Nat}{a b:List Nat}{x:Nat},L[i]? =some a->L[j]? =some b->i≠j->x∈a->x∈b->False
 |[],_,i,_,_,_,_,h,_,_,_,_=>by simp at h
 |l::r,hn,i,j,a,b,x,hi,hj,ne,ha,hb=>by
  rw[List.flatten_cons,List.nodup_append]at hn;obtain⟨_,h2,h3⟩:=hn;have up:∀{k:Nat}{c:List Nat},r[k]? =some c->∀y∈c,y∈r.flatten:=fun{k c} hk y hy=>List.mem_flatten.2 ⟨c,List.mem_of_getElem? hk,hy⟩;match i,j with
  |0,0=>exact ne rfl
  |0,j+1=>
   simp at hi;subst hi;simp at hj;exact h3 x ha x (up hj x hb) rfl
  |i+1,0=>
   simp at hj;subst hj;simp at hi;exact h3 x hb x (up hi x ha) rfl
  |i+1,j+1=>
   simp at hi hj;exact MK h2 hi hj (by omega) ha hb
section
variable {w w':World}{B b m:Nat}{F:Nat->Value}
theorem Ar.new.beside{c:Ar}(h:c.new B w)(hr:w.rowIs b 2 m F)(hg:w.grownBy w' (some b)):c.new B w':=h.of hg.size (fun b' e hn=>by
 obtain⟨b'',m',F',e',_,_,hr'⟩:=h.2 hn;rw[e]at e';cases e';exact hg.block b' hr'.lt (fun ee=>Fj hr' hr (by decide) (by have:=Option.some.inj ee;omega)))
theorem AH.new.beside{c:AH}(h:c.new B w)(hr:w.rowIs b 2 m F)(hg:w.grownBy w' (some b)):c.new B w':=h.of hg.size (fun b' e hn=>by
 obtain⟨b'',m',F',e',_,_,hr'⟩:=h.2 hn;rw[e]at e';cases e';exact hg.block b' hr'.lt (fun ee=>Fj hr' hr (by decide) (by have:=Option.some.inj ee;omega)))
theorem AJ.new.beside{c:AJ}(h:c.new B w)(hn:b∉c.bs)(hg:w.grownBy w' (some b)):c.new B w':=h.of hg.size (fun b' e h0=>by
 obtain⟨b'',m',F',e',_,_,hr'⟩:=h.2 h0;rw[e]at e';cases e';refine hg.block b' hr'.lt (fun ee=>hn ?_);have:b=b':=by have:=Option.some.inj ee;omega
 subst this;unfold AJ.bs;rw[if_pos h0,e];simp)
end
theorem BJ.ownRow{w w':World}{B g ca b:Nat}{vo:Value}{lt:List Ae}{lo:List Ab}(h:BJ w B (.slice g lt.length ca) vo lt lo)(ha:Apart lt lo){t:Nat}(ht:t<lt.length){X:Ae}(hX:X=lt[t])(hb:X.own.a=some ⟨b,0,none⟩)(hn:0<X.own.n)(hg:w.grownBy w' (some b)){d:AJ}(hd:d.new B w')(hdc:d.n<=d.k/\d.k<=maxLen):
 BJ (w'.setCell ⟨g,t*7+5,none⟩ (.slice d.a d.n d.k)) B (.slice g lt.length ca) vo (lt.set t ⟨X.id,X.b1,X.c1,X.b2,X.c2,d,X.made⟩) lo/\(∃cur,Ag w' g (.cells cur 39))/\B<=g:=by
 have hx:=h.tn _ (List.getElem_mem ht);rw[<-hX]at hx;obtain⟨b',m,F,eb,hBb,_,hr⟩:=hx.2.2.2 hn;rw[hb]at eb;cases eb;have hbs:b∈X.own.bs:=by unfold AJ.bs;rw[if_pos hn,hb];simp
 have other:∀{v:Value}{ty:TypeId}{sz n:Nat}{cs:List Value},w.ownsRow B ty sz v n cs->ty≠2->v.ownBlock=none∨v.ownBlock≠some b:=fun{v ty sz n cs} ho hty=>by
  rcases ho.2 with⟨hv,_⟩|⟨g',cap,cur,hv,_,hgg,_⟩
  ·exact .inl (by rw[hv];rfl)
  ·refine .inr (fun e=>hty ?_);rw[hv]at e;have e2:g'=b:=(by simpa[Value.ownBlock]using e);obtain⟨c,hc,_⟩:=hr;rw[<-e2,hgg]at hc;simp at hc;exact hc.2
 have own:(((lt.map fun x=>x.own.bs)++(lo.map fun x=>x.own.bs)).flatten).Nodup:=by have:=ha.i;simpa using this
 have it:((lt.map fun x=>x.own.bs)++(lo.map fun x=>x.own.bs))[t]? =some X.own.bs:=by
  rw[List.getElem?_append_left (by simpa using ht)];simp[ht,hX]
 have kt:Dq w' B (.slice g lt.length ca) lt:=World.ownsRow.kept h.t hg (other h.t (by decide));have ko:AO w' B vo lo:=World.ownsRow.kept h.o hg (other h.o (by decide));have ton:∀j (hj:j<lt.length),j≠t->(lt[j]).new B w':=fun j hj ne=>by
  have hy:=h.tn _ (List.getElem_mem hj);refine⟨hy.1.beside hr hg,hy.2.1.beside hr hg,hy.2.2.beside (fun hb2=>?_) hg⟩;exact MK own (i:=j) (j:=t) (by rw[List.getElem?_append_left (by simpa using hj)];simp[hj]) it ne hb2 hbs
 have oon:∀y∈lo,y.new B w':=fun y hy=>by
  have hy':=h.on y hy;refine⟨hy'.1.beside hr hg,hy'.2.1.beside hr hg,hy'.2.2.1.beside (fun hb2=>?_) hg,hy'.2.2.2.beside hr hg⟩;obtain⟨j,hj,rfl⟩:=List.getElem_of_mem hy;exact MK own (i:=lt.length+j) (j:=t) (by rw[List.getElem?_append_right (by simp),List.length_map,Nat.add_sub_cancel_left];simp[hj]) it (by omega) hb2 hbs
 obtain⟨cur,hcur⟩:∃cur,Ag w' g (.cells cur 39):=by
  rcases kt.2 with⟨hv,_⟩|⟨g',cap,cur,hv,_,hgg,_⟩
  ·cases hv
  ·cases hv;exact⟨cur,hgg⟩
 have hBg:B<=g:=(World.ownsRow.lt kt g rfl).1;have kl:=Au (i:=t*7+5) hcur (by decide) (.slice d.a d.n d.k);have ho:=(World.ownsRow.stored kt (t*7+5) (.slice d.a d.n d.k)).1;have hxn:(⟨X.id,X.b1,X.c1,X.b2,X.c2,d,X.made⟩:Ae).new B w':=⟨hx.1.beside hr hg,hx.2.1.beside hr hg,hd⟩;refine⟨⟨?_,ko.set hcur (by decide) _,fun y hy=>?_,fun y hy=>(oon y hy).keeps kl,fun y hy=>?_,h.oc⟩,⟨cur,hcur⟩,hBg⟩
 ·unfold Dq;have e:=Dd (f:=Ae.cs) Ae.jK (l:=lt) (t:=t) (x:=(⟨X.id,X.b1,X.c1,X.b2,X.c2,d,X.made⟩:Ae)) (u:= .slice d.a d.n d.k) (i:=5) ht (by omega) (by rw[<-hX];rfl);have el:(lt.set t (⟨X.id,X.b1,X.c1,X.b2,X.c2,d,X.made⟩:Ae)).length=lt.length:=by simp
  rw[el];unfold Ce;rw[<-e];exact ho
 ·obtain⟨j,hj,rfl⟩:=List.getElem_of_mem hy;rw[List.getElem_set];split
  ·exact hxn.keeps kl
  ·exact(ton j (by simpa using hj) (by omega)).keeps kl
 ·rcases Eu hy with rfl|hy
  ·exact hdc
  ·exact h.tc y hy
end Go.Proofs.YteoihknaljgocaaGreatDoor
