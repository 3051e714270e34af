import Derived.Shelf.RegionOpen
import Derived.OwnWalkIn
import Derived.TacticsInMore
import Derived.LoopNIn
import Derived.LoopIn
import Derived.RangeFuncFrom
import Derived.Test.YtefoofaocbjdoaaGreatDoorZ26s
set_option maxRecDepth 100000
set_option maxHeartbeats 4000000
namespace Go.Proofs.YtefoofaocbjdoaaGreatDoor
open Go.RowKit Go.Deep Go.Maps Go.Shelf Go.Proofs.Tryz
attribute [local go_sem] Oper.semAt_some
theorem cy{p:Prop}(h:p):Hid p:=h
def Hr(ba:Int)(na:Nat)(fa ga:Nat->Int)(bb:Int)(nb:Nat)(fb gb:Nat->Int)(x:Int):Bool:=
 ((look fa ga na x).isSome||(look fb gb nb x).isSome)&&decide (Ey bb nb fb gb x<Ey ba na fa ga x)
structure Ju(W:World)(A B:Nat)(ba:Int)(aa:Option Addr)(na ka:Nat)(fa ga:Nat->Int)(bb:Int)(ab:Option Addr)(nb kb:Nat)(fb gb:Nat->Int):Prop where
 ltA:A<W.heap.size
 ltB:B<W.heap.size
 a0:W.cell? ⟨A,0,none⟩=some (.int .i64 ba)
 a1:W.cell? ⟨A,1,none⟩=some (.slice aa na ka)
 b0:W.cell? ⟨B,0,none⟩=some (.int .i64 bb)
 b1:W.cell? ⟨B,1,none⟩=some (.slice ab nb kb)
 ca:Ba W aa na fa ga
 cb:Ba W ab nb fb gb
theorem Ju.below{W W':World}{A B:Nat}{ba:Int}{aa:Option Addr}{na ka:Nat}{fa ga:Nat->Int}{bb:Int}{ab:Option Addr}{nb kb:Nat}{fb gb:Nat->Int}
 (h:Ju W A B ba aa na ka fa ga bb ab nb kb fb gb)(hb:Below W W W'):Ju W' A B ba aa na ka fa ga bb ab nb kb fb gb:=
 ⟨Nat.lt_of_lt_of_le h.ltA hb.size,Nat.lt_of_lt_of_le h.ltB hb.size,(hb.cell (p:=⟨A,0,none⟩) h.ltA).trans h.a0,(hb.cell (p:=⟨A,1,none⟩) h.ltA).trans h.a1,
   (hb.cell (p:=⟨B,0,none⟩) h.ltB).trans h.b0,(hb.cell (p:=⟨B,1,none⟩) h.ltB).trans h.b1,h.ca.below hb,h.cb.below hb⟩
theorem Pu(l A B:Nat)(ba:Int)(aa:Option Addr)(na ka:Nat)(fa ga:Nat->Int)(bb:Int)(ab:Option Addr)(nb kb:Nat)(fb gb:Nat->Int)(J Jx:List Int->World->Prop)(w:World)
 (ma:na<=1048576)(mb:nb<=1048576)(hwa:∀i,i<na->(Lit.int .i64 (fa i)).wf=true/\(Lit.int .i64 (ga i)).wf=true)(hwb:∀i,i<nb->(Lit.int .i64 (fb i)).wf=true/\(Lit.int .i64 (gb i)).wf=true)
 (hL:Ju w A B ba aa na ka fa ga bb ab nb kb fb gb)(hJ:AbidesFrom w J)
 (hY:∀pre x W1,J pre W1->pre.length<na+nb->YieldAt Fence.wide 2 prog l #[.int .i64 x] W1 fun e W'=>
   (e= .returned (.bool true)/\J (pre++[x]) W'/\Bu W1 W')∨(e= .returned (.bool false)/\Jx (pre++[x]) W'))(h0:J [] w):
 Calls prog 162 #[.func (.yield l) #[] #[],.pointer A,.pointer B] w fun e W'=>(∃v,e= .returned v)/\
  ((∃xs,(∀x,x∈xs↔Hr ba na fa ga bb nb fb gb x=true)/\J xs W')∨(∃pre,(∀x,x∈pre->Hr ba na fa ga bb nb fb gb x=true)/\Jx pre W')):=by
 have HWA:Hid (∀i,i<na->(Lit.int .i64 (fa i)).wf=true/\(Lit.int .i64 (ga i)).wf=true):=hwa;have HWB:Hid (∀i,i<nb->(Lit.int .i64 (fb i)).wf=true/\(Lit.int .i64 (gb i)).wf=true):=hwb;clear hwa hwb;have HJ:Hid (∀W',Below w w W'->J [] W'):=fun W' hb=>hJ [] w W' none h0 (GV hb) (fun r e=>by cases e);have HL:Hid (Ju w A B ba aa na ka fa ga bb ab nb kb fb gb):=hL;obtain⟨lA,lB,x1,x2,x3,x4,hca,hcb⟩:=hL;have n5:Na #[.agg #[.int .i64 ba,.slice aa na ka]]:=⟨⟩;have levA:∀W,Below w w W->Calls prog 163 n5 W fun e w'=>∃c,e= .returned (.agg #[.int .i64 ba,.map (some c)])/\W.heap.size<=c/\Bo w' c na (look fa ga na)/\(∀b o,b<W.heap.size->w'.cell? ⟨b,o,none⟩=W.cell? ⟨b,o,none⟩)/\(∀b o,b<W.heap.size->w'.frozen? ⟨b,o,none⟩=W.frozen? ⟨b,o,none⟩)/\(∀V:World,V.heap.size<=W.heap.size->V.heap.size+3<w'.heap.size)/\Below w w w'/\Below W W w'/\(w'.heap.size≠A/\w'.heap.size≠B/\w'.heap.size+1≠A/\w'.heap.size+1≠B)/\(w.heap.size<w'.heap.size/\w.heap.size+1<w'.heap.size/\w'.heap.size≠w.heap.size/\w'.heap.size≠w.heap.size+1/\w'.heap.size+1≠w.heap.size)/\w'.cell? ⟨A,0,none⟩=some (.int .i64 ba)/\w'.cell? ⟨A,1,none⟩=some (.slice aa na ka)/\w'.cell? ⟨B,0,none⟩=some (.int .i64 bb)/\w'.cell? ⟨B,1,none⟩=some (.slice ab nb kb):=fun W hW=>by
  refine(KZ ba aa na ka fa ga W ma (hca.below hW) HWA).mono ?_;rintro e w' ⟨c,rfl,hl,hm,hz,hb⟩;have hW':=hW.trans (hb.mono hW.size);obtain⟨q,p⟩:=JK hb;have hs:=hW'.size;have hs0:=hW.size;exact⟨c,rfl,hl,hm,q,p,fun V hV=>by omega,hW',hb,by omega,cG (by omega),(hW'.cell (p:=⟨_,_,none⟩) lA).trans x1,(hW'.cell (p:=⟨_,_,none⟩) lA).trans x2,(hW'.cell (p:=⟨_,_,none⟩) lB).trans x3,(hW'.cell (p:=⟨_,_,none⟩) lB).trans x4⟩
 have HlevA:Hid (∀W,Below w w W->Calls prog 163 n5 W fun e w'=>∃c,e= .returned (.agg #[.int .i64 ba,.map (some c)])/\W.heap.size<=c/\Bo w' c na (look fa ga na)/\(∀b o,b<W.heap.size->w'.cell? ⟨b,o,none⟩=W.cell? ⟨b,o,none⟩)/\(∀b o,b<W.heap.size->w'.frozen? ⟨b,o,none⟩=W.frozen? ⟨b,o,none⟩)/\(∀V:World,V.heap.size<=W.heap.size->V.heap.size+3<w'.heap.size)/\Below w w w'/\Below W W w'/\(w'.heap.size≠A/\w'.heap.size≠B/\w'.heap.size+1≠A/\w'.heap.size+1≠B)/\(w.heap.size<w'.heap.size/\w.heap.size+1<w'.heap.size/\w'.heap.size≠w.heap.size/\w'.heap.size≠w.heap.size+1/\w'.heap.size+1≠w.heap.size)/\w'.cell? ⟨A,0,none⟩=some (.int .i64 ba)/\w'.cell? ⟨A,1,none⟩=some (.slice aa na ka)/\w'.cell? ⟨B,0,none⟩=some (.int .i64 bb)/\w'.cell? ⟨B,1,none⟩=some (.slice ab nb kb)):=levA;clear levA;have n6:Na #[.agg #[.int .i64 bb,.slice ab nb kb]]:=⟨⟩;have levB:∀W,Below w w W->Calls prog 163 n6 W fun e w'=>∃c,e= .returned (.agg #[.int .i64 bb,.map (some c)])/\W.heap.size<=c/\Bo w' c nb (look fb gb nb)/\(∀b o,b<W.heap.size->w'.cell? ⟨b,o,none⟩=W.cell? ⟨b,o,none⟩)/\(∀b o,b<W.heap.size->w'.frozen? ⟨b,o,none⟩=W.frozen? ⟨b,o,none⟩)/\(∀V:World,V.heap.size<=W.heap.size->V.heap.size+3<w'.heap.size)/\Below w w w'/\Below W W w'/\(w'.heap.size≠A/\w'.heap.size≠B/\w'.heap.size+1≠A/\w'.heap.size+1≠B)/\(w.heap.size<w'.heap.size/\w.heap.size+1<w'.heap.size/\w'.heap.size≠w.heap.size/\w'.heap.size≠w.heap.size+1/\w'.heap.size+1≠w.heap.size)/\w'.cell? ⟨A,0,none⟩=some (.int .i64 ba)/\w'.cell? ⟨A,1,none⟩=some (.slice aa na ka)/\w'.cell? ⟨B,0,none⟩=some (.int .i64 bb)/\w'.cell? ⟨B,1,none⟩=some (.slice ab nb kb):=fun W hW=>by
  refine(KZ bb ab nb kb fb gb W mb (hcb.below hW) HWB).mono ?_;rintro e w' ⟨c,rfl,hl,hm,hz,hb⟩;have hW':=hW.trans (hb.mono hW.size);obtain⟨q,p⟩:=JK hb;have hs:=hW'.size;have hs0:=hW.size;exact⟨c,rfl,hl,hm,q,p,fun V hV=>by omega,hW',hb,by omega,cG (by omega),(hW'.cell (p:=⟨_,_,none⟩) lA).trans x1,(hW'.cell (p:=⟨_,_,none⟩) lA).trans x2,(hW'.cell (p:=⟨_,_,none⟩) lB).trans x3,(hW'.cell (p:=⟨_,_,none⟩) lB).trans x4⟩
 have HlevB:Hid (∀W,Below w w W->Calls prog 163 n6 W fun e w'=>∃c,e= .returned (.agg #[.int .i64 bb,.map (some c)])/\W.heap.size<=c/\Bo w' c nb (look fb gb nb)/\(∀b o,b<W.heap.size->w'.cell? ⟨b,o,none⟩=W.cell? ⟨b,o,none⟩)/\(∀b o,b<W.heap.size->w'.frozen? ⟨b,o,none⟩=W.frozen? ⟨b,o,none⟩)/\(∀V:World,V.heap.size<=W.heap.size->V.heap.size+3<w'.heap.size)/\Below w w w'/\Below W W w'/\(w'.heap.size≠A/\w'.heap.size≠B/\w'.heap.size+1≠A/\w'.heap.size+1≠B)/\(w.heap.size<w'.heap.size/\w.heap.size+1<w'.heap.size/\w'.heap.size≠w.heap.size/\w'.heap.size≠w.heap.size+1/\w'.heap.size+1≠w.heap.size)/\w'.cell? ⟨A,0,none⟩=some (.int .i64 ba)/\w'.cell? ⟨A,1,none⟩=some (.slice aa na ka)/\w'.cell? ⟨B,0,none⟩=some (.int .i64 bb)/\w'.cell? ⟨B,1,none⟩=some (.slice ab nb kb)):=levB;clear levB;have HE00:Hid (Below w w w.drew):=(Below.refl _ _).drew;have HE0:Hid (∀o,Below w w (w.alloc o).drew):=fun o=>((Below.refl _ _).alloc nr o).drew;have HE000:Hid (∀o o',Below w w ((w.alloc o).alloc o').drew):=fun o o'=>(((Below.refl _ _).alloc nr o).alloc (by simp) o').drew;have HY:=cy hY;have HJ0:=cy hJ;clear hY hJ h0 hca hcb;have n1:w.heap.size≠A:=by omega
 have n2:w.heap.size≠B:=by omega
 have n3:w.heap.size+1≠A:=by omega
 have n4:w.heap.size+1≠B:=by omega
 go_enter func162,ntmps162
 go_upto_region 0 with fail
 go_cut[4,5] (fun p q wc=>∃P Q c d:Nat,p= .pointer P/\q= .pointer Q/\B9 wc P (.int .i64 ba) (.map (some c))/\B9 wc Q (.int .i64 bb) (.map (some d))/\Bo wc c na (look fa ga na)/\Bo wc d nb (look fb gb nb)/\Below w w wc)
 case first=>
  go_region_held3(fun w'=>w'.cell? ⟨A,0,none⟩=some (.int .i64 ba)/\w'.cell? ⟨A,1,none⟩=some (.slice aa na ka)/\w'.cell? ⟨B,0,none⟩=some (.int .i64 bb)/\w'.cell? ⟨B,1,none⟩=some (.slice ab nb kb)) (first|go_keep|(simp[*]))
   (first
     |(go_at_call 163;have hb1':=hb1;clear hb1';refine(HlevB _ ?hB).mono ?_;(case hB=>first|exact E1|exact E1.alloc E1.size _|exact(E1.alloc E1.size _).alloc (E1.alloc E1.size _).size _);rintro e v2 ⟨c2,rfl,hl2,m2,qb,pb,rb,E2,hb2,⟨s1,s2,s3,s4⟩,⟨g1,g2,g3,g4,g5⟩,y1,y2,y3,y4⟩;have rb':=rb v1 (by simp;try omega);obtain⟨f1,f2,f3,f4,f5⟩:=cG rb')
     |(go_at_call 163;refine(HlevA _ ?hB).mono ?_;(case hB=>first|exact HE00.out|exact HE0.out _|exact HE000.out _ _);rintro e v1 ⟨c1,rfl,hl1,m1,qa,pa,ra,E1,hb1,⟨r1,r2,r3,r4⟩,⟨d1,d2,d3,d4,d5⟩,p1,p2,p3,p4⟩))
  all_goals
   have l1:=m1.lt;have l2:=m2.lt;try simp at hl1
   try simp at hl2
   clear qa pa qb pb HlevA HlevB;have E3:Below w w v2:=E2;go_wp2_with fail
   go_meet;case rel=>
    refine⟨_,_,c1,c2,rfl,rfl,?_,?_,?_,?_,?_⟩
    ·repeat(first|(with_reducible refine B9.new' ?_;simp;done)|with_reducible refine B9.set01 ?_ _ _|(with_reducible refine B9.other ?_ ?_ _;rotate_left;(dsimp only;omega))|with_reducible refine B9.alloc ?_ _)
     all_goals repeat(first|(with_reducible refine Gn.new' ?_;simp;done)|(with_reducible refine Gn.other ?_ ?_ _;rotate_left;(dsimp only;omega))|with_reducible refine Gn.alloc ?_ _|with_reducible refine Gn.drew ?_|with_reducible refine Gn.below ?_ hb2|with_reducible refine Gn.below ?_ hb1)
    ·repeat(first|(with_reducible refine B9.new' ?_;simp;done)|with_reducible refine B9.set01 ?_ _ _|(with_reducible refine B9.other ?_ ?_ _;rotate_left;(dsimp only;omega))|with_reducible refine B9.alloc ?_ _)
     all_goals repeat(first|(with_reducible refine Gn.new' ?_;simp;done)|(with_reducible refine Gn.other ?_ ?_ _;rotate_left;(dsimp only;omega))|with_reducible refine Gn.alloc ?_ _|with_reducible refine Gn.drew ?_|with_reducible refine Gn.below ?_ hb2|with_reducible refine Gn.below ?_ hb1)
    ·repeat(first|with_reducible exact m1|(with_reducible refine Bo.setCell ?_ ?_ _;rotate_left;(dsimp only;omega))|with_reducible refine Bo.alloc ?_ _|with_reducible refine Bo.below ?_ hb2)
    ·repeat(first|with_reducible exact m2|(with_reducible refine Bo.setCell ?_ ?_ _;rotate_left;(dsimp only;omega))|with_reducible refine Bo.alloc ?_ _)
    ·repeat(first|with_reducible exact E3|(with_reducible refine Below.setCell ?_ ?_ _;rotate_left;(dsimp only;omega))|(with_reducible refine Below.alloc ?_ ?_ _;rotate_left;(first|omega|(simp;omega))))
 case rest=>
  obtain⟨P,Q,c,d,rfl,rfl,u1,u2,m1,m2,Bc⟩:=hcut;obtain⟨a1,a2⟩:=u1.cells;obtain⟨a3,a4⟩:=u2.cells;have lP:=u1.lt;have lQ:=u2.lt;clear u1 u2 n1 n2 n3 n4 x1 x2 x3 x4 HE00 HE0 HE000 HlevA HlevB HWA HWB;rename_i QQ KK hKK;refine hKK _ _ ((wpIn_wide (n:=3)).1 ?_);clear hKK KK;have hmix:prog.follows .mixedOrders=true:=by kernel_rfl
  gi_wp2_with fail;refine⟨trivial,?_⟩;refine(callsIn_wide.2 (Rw _ _ _ _ _ _ _ _ _ m1 m2 (by omega))).mono ?_;rintro e w3 ⟨a,n,cap,h,rfl,hle,hat,hmem,hris,hwf,hb3⟩;have b1:=(hb3.cell (p:=⟨P,0,none⟩) lP).trans a1;have b2:=(hb3.cell (p:=⟨P,1,none⟩) lP).trans a2;have b3:=(hb3.cell (p:=⟨Q,0,none⟩) lQ).trans a3;have b4:=(hb3.cell (p:=⟨Q,1,none⟩) lQ).trans a4;have M1:=m1.below hb3;have M2:=m2.below hb3;have lP3:P<w3.heap.size:=Nat.lt_of_lt_of_le lP hb3.size;have lQ3:Q<w3.heap.size:=Nat.lt_of_lt_of_le lQ hb3.size;have J3:Hid (J [] w3):=HJ.out _ (Bc.trans (hb3.mono Bc.size));have HM:Hid (∀x,(∃i,i<n/\h i=x)↔((look fa ga na x).isSome||(look fb gb nb x).isSome)=true):=hmem;have HWF:Hid (∀i,i<n->(Lit.int .i64 (h i)).wf=true):=hwf;have HR:Hid (∀j,j<n->∀i,i<j->h i<h j):=hris;clear a1 a2 a3 a4 m1 m2 hmem hwf hris lP lQ hb3 Bc HJ HL lA lB;gi_wp2;gi_loopw [16] (fun i wr=>∃(k:Nat) (pre:List Int),k<=n/\i= .int .i64 k/\pre.length<=k/\(∀x,x∈pre↔(∃j,j<k/\h j=x)/\Ey bb nb fb gb x<Ey ba na fa ga x)/\J pre wr/\Bu w3 wr) (fun i _=>n-(intOf i).toNat);case atStart=>exact⟨0,[],Nat.zero_le _,rfl,Nat.le_refl _,fun x=>by simp,J3,Bu.refl _⟩
  case round=>
   obtain⟨k,pre,hk,rfl,hpl,hpre,hJp,hK⟩:=hrel;have HP:Hid (∀x,x∈pre↔(∃j,j<k/\h j=x)/\Ey bb nb fb gb x<Ey ba na fa ga x):=hpre;have HJp:Hid (J pre wr):=hJp;clear hpre hJp;by_cases hlt':k<n
   ·obtain⟨b,off,rfl,hlt,hcc⟩:=hat (by omega);have r5:=hK.cell (hcc k hlt');have r1:=hK.cell b1;have r2:=hK.cell b2;have r3:=hK.cell b3;have r4:=hK.cell b4;have lPr:P<wr.heap.size:=Nat.lt_of_lt_of_le lP3 hK.size;have lQr:Q<wr.heap.size:=Nat.lt_of_lt_of_le lQ3 hK.size;have N1:Bo wr.drew c na (look fa ga na):=(hK.map M1).below (Below.refl _ _).drew;have N2:Bo wr.drew d nb (look fb gb nb):=(hK.map M2).below (Below.refl _ _).drew;have HWX:Hid ((Lit.int .i64 (h k)).wf=true):=HWF.out k hlt';clear hcc hat b1 b2 b3 b4 M1 M2;by_cases t5:Ey bb nb fb gb (h k)<Ey ba na fa ga (h k)
    ·have hyk:Hid (∀W,Below wr wr W->YieldAt Fence.wide 2 prog l #[.int .i64 (h k)] W fun e W'=>
      (e= .returned (.bool true)/\J (pre++[h k]) W'/\Bu W W')∨(e= .returned (.bool false)/\Jx (pre++[h k]) W')):=fun W hb=>
      HY pre (h k) W (HJ0 pre wr W none HJp (GV hb) (fun r e=>by cases e)) (by omega)
     gi_wp2_with fail;refine AnyF.region (fun w'=>w'.cell? ⟨P,0,none⟩=some (.int .i64 ba)/\w'.cell? ⟨P,1,none⟩=some (.map (some c))/\w'.cell? ⟨Q,0,none⟩=some (.int .i64 bb)/\w'.cell? ⟨Q,1,none⟩=some (.map (some d))) [10,11,12] hmix ?_;have S0:wr.drew.cell? ⟨P,0,none⟩=some (.int .i64 ba)/\wr.drew.cell? ⟨P,1,none⟩=some (.map (some c))/\wr.drew.cell? ⟨Q,0,none⟩=some (.int .i64 bb)/\wr.drew.cell? ⟨Q,1,none⟩=some (.map (some d)):=⟨r1,r2,r3,r4⟩;refine AnyF.takeD (i:=0) (d:=20) (.agg #[.int .i64 ba,.map (some c)]) rfl rfl rfl (by kernel_rfl) (by kernel_rfl) (by kernel_rfl) (by kernel_rfl) (by kernel_rfl) (fun _ _ _ h=>h) S0 (Or.inl ⟨by rfl,fun w' h=>(by dsimp only at h;go_simp)⟩) (fun _=>by rfl) ?_;simp only[ap,List.set];refine AnyF.takeD (i:=1) (d:=21) (.int .i64 (h k)) rfl rfl rfl (by kernel_rfl) (by kernel_rfl) (by kernel_rfl) (by kernel_rfl) (by kernel_rfl) (fun _ _ _ h=>h) S0 (Or.inl ⟨by rfl,fun w' h=>(by dsimp only at h;go_simp)⟩) (fun _=>by rfl) ?_;simp only[ap,List.set];refine AnyF.takeD (i:=3) (d:=23) (.agg #[.int .i64 bb,.map (some d)]) rfl rfl rfl (by kernel_rfl) (by kernel_rfl) (by kernel_rfl) (by kernel_rfl) (by kernel_rfl) (fun _ _ _ h=>h) S0 (Or.inl ⟨by rfl,fun w' h=>(by dsimp only at h;go_simp)⟩) (fun _=>by rfl) ?_;simp only[ap,List.set];refine AnyF.takeD (i:=4) (d:=24) (.int .i64 (h k)) rfl rfl rfl (by kernel_rfl) (by kernel_rfl) (by kernel_rfl) (by kernel_rfl) (by kernel_rfl) (fun _ _ _ h=>h) S0 (Or.inl ⟨by rfl,fun w' h=>(by dsimp only at h;go_simp)⟩) (fun _=>by rfl) ?_;simp only[ap,List.set];refine AnyF.one (i:=2) rfl (by kernel_rfl) (fun K1 hK1=>?_);go_simp;refine⟨trivial,?_⟩;refine(callsIn_wide.2 (QG ba c na fa ga (h k) _ N1 HWX)).mono ?_;rintro e v1 ⟨rfl,hb1⟩;have S1:v1.cell? ⟨P,0,none⟩=some (.int .i64 ba)/\v1.cell? ⟨P,1,none⟩=some (.map (some c))/\v1.cell? ⟨Q,0,none⟩=some (.int .i64 bb)/\v1.cell? ⟨Q,1,none⟩=some (.map (some d)):=⟨(hb1.cell (p:=⟨P,0,none⟩) lPr).trans r1,(hb1.cell (p:=⟨P,1,none⟩) lPr).trans r2,(hb1.cell (p:=⟨Q,0,none⟩) lQr).trans r3,(hb1.cell (p:=⟨Q,1,none⟩) lQr).trans r4⟩;refine hK1 _ _ (fun _=>S1) ?_;clear hK1 K1;refine AnyF.one (i:=5) rfl (by kernel_rfl) (fun K1 hK1=>?_);go_simp;refine⟨trivial,?_⟩;refine(callsIn_wide.2 (QG bb d nb fb gb (h k) _ (N2.below hb1) HWX)).mono ?_;rintro e v2 ⟨rfl,hb2⟩;have lPv:P<v1.heap.size:=Nat.lt_of_lt_of_le lPr hb1.size;have lQv:Q<v1.heap.size:=Nat.lt_of_lt_of_le lQr hb1.size;have S2:v2.cell? ⟨P,0,none⟩=some (.int .i64 ba)/\v2.cell? ⟨P,1,none⟩=some (.map (some c))/\v2.cell? ⟨Q,0,none⟩=some (.int .i64 bb)/\v2.cell? ⟨Q,1,none⟩=some (.map (some d)):=⟨(hb2.cell (p:=⟨P,0,none⟩) lPv).trans S1.1,(hb2.cell (p:=⟨P,1,none⟩) lPv).trans S1.2.1,(hb2.cell (p:=⟨Q,0,none⟩) lQv).trans S1.2.2.1,(hb2.cell (p:=⟨Q,1,none⟩) lQv).trans S1.2.2.2⟩;have B2:Below wr wr v2:=(((Below.refl _ wr).drew.trans hb1).trans (hb2.mono hb1.size));refine hK1 _ _ (fun _=>S2) ?_;clear hK1 K1 S0 S1 hb1 hb2;refine AnyF.takeD (i:=6) (d:=26) (.bool true) rfl rfl rfl (by kernel_rfl) (by kernel_rfl) (by kernel_rfl) (by kernel_rfl) (by kernel_rfl) (fun _ _ _ h=>h) S2 (Or.inl ⟨by rfl,fun w' h=>(by dsimp only at h;go_simp)⟩) (fun _=>by rfl) ?_;simp only[ap,List.set];refine AnyF.takeD (i:=7) (d:=27) (.bool true) rfl rfl rfl (by kernel_rfl) (by kernel_rfl) (by kernel_rfl) (by kernel_rfl) (by kernel_rfl) (fun _ _ _ h=>h) S2 (Or.inl ⟨by rfl,fun w' h=>(by dsimp only at h;go_simp)⟩) (fun _=>by rfl) ?_;simp only[ap,List.set];refine AnyF.takeD (i:=8) (d:=28) (.func (.yield l) #[] #[]) rfl rfl rfl (by kernel_rfl) (by kernel_rfl) (by kernel_rfl) (by kernel_rfl) (by kernel_rfl) (fun _ _ _ h=>h) S2 (Or.inl ⟨by rfl,fun w' h=>(by dsimp only at h;go_simp)⟩) (fun _=>by rfl) ?_;simp only[ap,List.set];refine AnyF.takeD (i:=9) (d:=29) (.int .i64 (h k)) rfl rfl rfl (by kernel_rfl) (by kernel_rfl) (by kernel_rfl) (by kernel_rfl) (by kernel_rfl) (fun _ _ _ h=>h) S2 (Or.inl ⟨by rfl,fun w' h=>(by dsimp only at h;go_simp)⟩) (fun _=>by rfl) ?_;simp only[ap,List.set];obtain⟨fn,tmps,assign,body,hy,hR⟩:=hyk.out v2 B2;refine AnyF.one (i:=10) rfl (by kernel_rfl) (fun K1 hK1=>?_);go_simp;refine hR.mono ?_;rintro e W3 (⟨rfl,hJ3,hk3⟩|⟨rfl,hJx3⟩)
     ·refine hK1 _ _ (fun h=>by simp at h) ?_;clear hK1 K1;refine AnyF.one (i:=11) rfl (by kernel_rfl) (fun K1 hK1=>?_);go_simp;refine hK1 _ _ (fun h=>by simp at h) ?_;clear hK1 K1;refine AnyF.one (i:=12) rfl (by kernel_rfl) (fun K1 hK1=>?_);go_simp;refine hK1 _ _ (fun h=>by simp at h) ?_;clear hK1 K1;refine AnyF.done (by kernel_rfl) ?_;gi_wp2;go_roundw;case rel=>
       refine⟨k+1,pre++[h k],by omega,by go_num,by simp;omega,fun x=>?_,hJ3,(hK.trans (Bu.of_below B2)).trans hk3⟩;rw[List.mem_append,HP.out x];constructor
       ·rintro(⟨⟨j,hj,e⟩,q⟩|q)
        ·exact⟨⟨j,by omega,e⟩,q⟩
        ·obtain rfl:x=h k:=by simpa using q
         exact⟨⟨k,by omega,rfl⟩,t5⟩
       ·rintro⟨⟨j,hj,e⟩,q⟩;by_cases ej:j=k
        ·subst ej;subst e;exact .inr (by simp)
        ·exact .inl ⟨⟨j,by omega,e⟩,q⟩
      case measure=>simp[intOf];omega
     ·refine hK1 _ _ (fun h=>by simp at h) ?_;clear hK1 K1;refine AnyF.one (i:=11) rfl (by kernel_rfl) (fun K1 hK1=>?_);go_simp;refine hK1 _ _ (fun h=>by simp at h) ?_;clear hK1 K1;refine AnyF.one (i:=12) rfl (by kernel_rfl) (fun K1 hK1=>?_);go_simp;refine hK1 _ _ (fun h=>by simp at h) ?_;clear hK1 K1;refine AnyF.done (by kernel_rfl) ?_;gi_wp2;refine bodyPost_ret (results_none rfl _ _ _) rfl ?_;refine⟨⟨_,rfl⟩,.inr ⟨pre++[h k],fun x hx=>?_,hJx3⟩⟩;have hx2:(∃j,j<n/\h j=x)/\Ey bb nb fb gb x<Ey ba na fa ga x:=by
       rcases List.mem_append.1 hx with hx|hx
       ·obtain⟨⟨j,hj,e⟩,q⟩:=(HP x).1 hx;exact⟨⟨j,by omega,e⟩,q⟩
       ·obtain rfl:x=h k:=by simpa using hx
        exact⟨⟨k,hlt',rfl⟩,t5⟩
      have:=(HM x).1 hx2.1;unfold Hr;rw[this];simpa using hx2.2
    ·skip;gi_wp2_with fail;refine AnyF.region (fun w'=>w'.cell? ⟨P,0,none⟩=some (.int .i64 ba)/\w'.cell? ⟨P,1,none⟩=some (.map (some c))/\w'.cell? ⟨Q,0,none⟩=some (.int .i64 bb)/\w'.cell? ⟨Q,1,none⟩=some (.map (some d))) [] hmix ?_;have S0:wr.drew.cell? ⟨P,0,none⟩=some (.int .i64 ba)/\wr.drew.cell? ⟨P,1,none⟩=some (.map (some c))/\wr.drew.cell? ⟨Q,0,none⟩=some (.int .i64 bb)/\wr.drew.cell? ⟨Q,1,none⟩=some (.map (some d)):=⟨r1,r2,r3,r4⟩;refine AnyF.takeD (i:=0) (d:=20) (.agg #[.int .i64 ba,.map (some c)]) rfl rfl rfl (by kernel_rfl) (by kernel_rfl) (by kernel_rfl) (by kernel_rfl) (by kernel_rfl) (fun _ _ _ h=>h) S0 (Or.inl ⟨by rfl,fun w' h=>(by dsimp only at h;go_simp)⟩) (fun _=>by rfl) ?_;simp only[ap,List.set];refine AnyF.takeD (i:=1) (d:=21) (.int .i64 (h k)) rfl rfl rfl (by kernel_rfl) (by kernel_rfl) (by kernel_rfl) (by kernel_rfl) (by kernel_rfl) (fun _ _ _ h=>h) S0 (Or.inl ⟨by rfl,fun w' h=>(by dsimp only at h;go_simp)⟩) (fun _=>by rfl) ?_;simp only[ap,List.set];refine AnyF.takeD (i:=3) (d:=23) (.agg #[.int .i64 bb,.map (some d)]) rfl rfl rfl (by kernel_rfl) (by kernel_rfl) (by kernel_rfl) (by kernel_rfl) (by kernel_rfl) (fun _ _ _ h=>h) S0 (Or.inl ⟨by rfl,fun w' h=>(by dsimp only at h;go_simp)⟩) (fun _=>by rfl) ?_;simp only[ap,List.set];refine AnyF.takeD (i:=4) (d:=24) (.int .i64 (h k)) rfl rfl rfl (by kernel_rfl) (by kernel_rfl) (by kernel_rfl) (by kernel_rfl) (by kernel_rfl) (fun _ _ _ h=>h) S0 (Or.inl ⟨by rfl,fun w' h=>(by dsimp only at h;go_simp)⟩) (fun _=>by rfl) ?_;simp only[ap,List.set];refine AnyF.one (i:=2) rfl (by kernel_rfl) (fun K1 hK1=>?_);go_simp;refine⟨trivial,?_⟩;refine(callsIn_wide.2 (QG ba c na fa ga (h k) _ N1 HWX)).mono ?_;rintro e v1 ⟨rfl,hb1⟩;have S1:v1.cell? ⟨P,0,none⟩=some (.int .i64 ba)/\v1.cell? ⟨P,1,none⟩=some (.map (some c))/\v1.cell? ⟨Q,0,none⟩=some (.int .i64 bb)/\v1.cell? ⟨Q,1,none⟩=some (.map (some d)):=⟨(hb1.cell (p:=⟨P,0,none⟩) lPr).trans r1,(hb1.cell (p:=⟨P,1,none⟩) lPr).trans r2,(hb1.cell (p:=⟨Q,0,none⟩) lQr).trans r3,(hb1.cell (p:=⟨Q,1,none⟩) lQr).trans r4⟩;refine hK1 _ _ (fun _=>S1) ?_;clear hK1 K1;refine AnyF.one (i:=5) rfl (by kernel_rfl) (fun K1 hK1=>?_);go_simp;refine⟨trivial,?_⟩;refine(callsIn_wide.2 (QG bb d nb fb gb (h k) _ (N2.below hb1) HWX)).mono ?_;rintro e v2 ⟨rfl,hb2⟩;have lPv:P<v1.heap.size:=Nat.lt_of_lt_of_le lPr hb1.size;have lQv:Q<v1.heap.size:=Nat.lt_of_lt_of_le lQr hb1.size;have S2:v2.cell? ⟨P,0,none⟩=some (.int .i64 ba)/\v2.cell? ⟨P,1,none⟩=some (.map (some c))/\v2.cell? ⟨Q,0,none⟩=some (.int .i64 bb)/\v2.cell? ⟨Q,1,none⟩=some (.map (some d)):=⟨(hb2.cell (p:=⟨P,0,none⟩) lPv).trans S1.1,(hb2.cell (p:=⟨P,1,none⟩) lPv).trans S1.2.1,(hb2.cell (p:=⟨Q,0,none⟩) lQv).trans S1.2.2.1,(hb2.cell (p:=⟨Q,1,none⟩) lQv).trans S1.2.2.2⟩;have B2:Below wr wr v2:=(((Below.refl _ wr).drew.trans hb1).trans (hb2.mono hb1.size));refine hK1 _ _ (fun _=>S2) ?_;clear hK1 K1 S0 S1 hb1 hb2;refine AnyF.takeD (i:=6) (d:=26) (.bool false) rfl rfl rfl (by kernel_rfl) (by kernel_rfl) (by kernel_rfl) (by kernel_rfl) (by kernel_rfl) (fun _ _ _ h=>h) S2 (Or.inl ⟨by rfl,fun w' h=>(by dsimp only at h;go_simp)⟩) (fun _=>by rfl) ?_;simp only[ap,List.set];refine AnyF.takeD (i:=7) (d:=27) (.bool false) rfl rfl rfl (by kernel_rfl) (by kernel_rfl) (by kernel_rfl) (by kernel_rfl) (by kernel_rfl) (fun _ _ _ h=>h) S2 (Or.inl ⟨by rfl,fun w' h=>(by dsimp only at h;go_simp)⟩) (fun _=>by rfl) ?_;simp only[ap,List.set];refine AnyF.skip (i:=8) (d:=28) rfl rfl rfl (by kernel_rfl) (by kernel_rfl) (by kernel_rfl) (by kernel_rfl) (by kernel_rfl) (fun _ _ _ h=>h) S2 (by rfl) (fun _=>by rfl) ?_;simp only[ap,List.set];refine AnyF.skip (i:=9) (d:=29) rfl rfl rfl (by kernel_rfl) (by kernel_rfl) (by kernel_rfl) (by kernel_rfl) (by kernel_rfl) (fun _ _ _ h=>h) S2 (by rfl) (fun _=>by rfl) ?_;simp only[ap,List.set];refine AnyF.skip (i:=10) (d:=30) rfl rfl rfl (by kernel_rfl) (by kernel_rfl) (by kernel_rfl) (by kernel_rfl) (by kernel_rfl) (fun _ _ _ h=>h) S2 (by rfl) (fun _=>by rfl) ?_;simp only[ap,List.set];refine AnyF.skip (i:=11) (d:=31) rfl rfl rfl (by kernel_rfl) (by kernel_rfl) (by kernel_rfl) (by kernel_rfl) (by kernel_rfl) (fun _ _ _ h=>h) S2 (by rfl) (fun _=>by rfl) ?_;simp only[ap,List.set];refine AnyF.takeD (i:=12) (d:=32) (.bool false) rfl rfl rfl (by kernel_rfl) (by kernel_rfl) (by kernel_rfl) (by kernel_rfl) (by kernel_rfl) (fun _ _ _ h=>h) S2 (Or.inl ⟨by rfl,fun w' h=>(by dsimp only at h;go_simp)⟩) (fun _=>by rfl) ?_;simp only[ap,List.set];refine AnyF.done (by kernel_rfl) ?_;gi_wp2;go_roundw;case rel=>
      refine⟨k+1,pre,by omega,by go_num,by omega,fun x=>?_,HJ0 pre wr v2 none HJp (GV B2) (fun r e=>by cases e),hK.trans (Bu.of_below B2)⟩;rw[HP.out x];constructor
      ·rintro⟨⟨j,hj,e⟩,q⟩;exact⟨⟨j,by omega,e⟩,q⟩
      ·rintro⟨⟨j,hj,e⟩,q⟩;by_cases ej:j=k
       ·subst ej;subst e;exact absurd q (by omega)
       ·exact⟨⟨j,by omega,e⟩,q⟩
     case measure=>simp[intOf];omega
   ·clear hat b1 b2 b3 b4 M1 M2;gi_wp2;go_end0;refine⟨⟨_,rfl⟩,.inl ⟨pre,fun x=>?_,HJp⟩⟩;have ek:k=n:=(by omega);subst ek;rw[HP.out x,HM.out x];simp[Hr]
attribute [local go_sem] Oper.semAt_some
theorem VF(a:Option Addr)(n cap:Nat)(h:Nat->Int)(x:Int)(w:World)(hn:n<=maxLen)(hc:Bj w a n h):
 Calls prog 119 #[.slice a n cap,.int .i64 x] w fun e w'=>∃r:Int,e= .returned (.int .i64 r)/\(decide (0<=r)=hasB n h x)/\w'=w:=by
 unfold maxLen at hn;go_enter func119,ntmps119
 go_wp2;go_loop [8] (fun i=>∃k:Nat,k<=n/\i= .int .i64 k/\(∀j,j<k->h j≠x)) (fun i=>n-(intOf i).toNat)
 case atStart=>exact⟨0,Nat.zero_le _,rfl,fun j hj=>by omega⟩
 case round=>
  obtain⟨k,hk,rfl,hall⟩:=hrel;have HA:Hid (∀j,j<k->h j≠x):=hall;clear hall;by_cases hlt':k<n
  ·obtain⟨b,off,rfl,hlt,hcc⟩:=hc (by omega);have g1:=hcc k hlt';clear hcc hc;by_cases t:(x==h k)=true
   ·go_wp2;go_ret;exact⟨_,rfl,by rw[Ol hlt' (by simpa using(beq_iff_eq.1 t).symm)];simp,rfl⟩
   ·have t':(x==h k)=false:=(by simpa using t);clear t;go_wp2;go_round;case rel=>
     refine⟨k+1,by omega,by go_num,fun j hj=>?_⟩;by_cases e:j=k
     ·subst e;intro q;rw[q]at t';simp at t'
     ·exact HA.out j (by omega)
    case measure=>simp[intOf];omega
  ·clear hc;go_wp2;go_ret;have e:k=n:=(by omega);subst e;exact⟨_,rfl,by rw[Qv HA.out];simp,rfl⟩
theorem Iz(a:Option Addr)(n cap:Nat)(h:Nat->Int)(x:Int)(w:World)(hn:n<=maxLen)(hc:Bj w a n h):
 Calls prog 117 #[.slice a n cap,.int .i64 x] w fun e w'=>e= .returned (.bool (hasB n h x))/\w'=w:=by
 go_enter func117,ntmps117
 go_wp2_with(go_at_call 119;refine(VF _ _ _ h _ _ hn hc).mono ?_;rintro e w' ⟨r,rfl,hr,rfl⟩)
 all_goals
  go_ret;refine⟨Ag ?_,rfl⟩;rw[<-hr];first|done|(simp;done)|(simp;omega)
theorem Pf(ba:Int)(aa:Option Addr)(na ka:Nat)(bb:Int)(ab:Option Addr)(nb kb:Nat)(w:World):
 Calls prog 139 #[.agg #[.int .i64 ba,.slice aa na ka],.agg #[.int .i64 bb,.slice ab nb kb]] w fun e w'=>e= .returned (.func (.func 162) #[] #[.pointer (w),.pointer (some ⟨w.heap.size+1,0,none⟩)])/\
  w'=(w.alloc (.cells #[.int .i64 ba,.slice aa na ka] 30)).alloc (.cells #[.int .i64 bb,.slice ab nb kb] 30):=by
 go_enter func139,ntmps139
 go_wp2;go_ret;exact⟨rfl,rfl⟩
def Dc(ba:Int)(na:Nat)(fa ga:Nat->Int)(no:Nat)(ho:Nat->Int)(bb:Int)(nb:Nat)(fb gb:Nat->Int):Bool:=
 AZ ba na fa ga&&AZ bb nb fb gb&&BJ no ho&&Cz ba na fa ga no ho bb nb fb gb
theorem N9{ba:Int}{na:Nat}{fa ga:Nat->Int}{bb:Int}{nb:Nat}{fb gb:Nat->Int}{x:Int}(h0:ba<=bb)(h:Ey bb nb fb gb x<Ey ba na fa ga x):
 ((look fa ga na x).isSome||(look fb gb nb x).isSome)=true:=by
 cases h1:look fa ga na x with
 |some v=>simp
 |none=>
  cases h2:look fb gb nb x with
  |some v=>simp
  |none=>simp[Ey,h1,h2]at h;omega
theorem Nf{ba:Int}{na:Nat}{fa ga:Nat->Int}{no:Nat}{ho:Nat->Int}{bb:Int}{nb:Nat}{fb gb:Nat->Int}(h0:ba<=bb)
 (h:∀x,Hr ba na fa ga bb nb fb gb x=true->hasB no ho x=true):Cz ba na fa ga no ho bb nb fb gb=true:=by
 refine P3 h0 fun i hi=>?_;unfold Jj;by_cases e:Ey bb nb fb gb (glue na fa fb i)<Ey ba na fa ga (glue na fa fb i)
 ·rw[h _ (by unfold Hr;rw[N9 h0 e];simpa using e)];rfl
 ·simp[e]
theorem MS{ba:Int}{na:Nat}{fa ga:Nat->Int}{no:Nat}{ho:Nat->Int}{bb:Int}{nb:Nat}{fb gb:Nat->Int}{x:Int}
 (h:Hr ba na fa ga bb nb fb gb x=true)(ho':hasB no ho x=false):Cz ba na fa ga no ho bb nb fb gb=false:=by
 unfold Hr at h;rw[Bool.and_eq_true,Bool.or_eq_true]at h;have hl:Jj ba na fa ga no ho bb nb fb gb x=false:=by unfold Jj;rw[ho',h.2];rfl
 rcases h.1 with e|e
 ·obtain⟨i,hi,e⟩:=Ms e;exact LJ (k:=i) (by omega) (by simp only[glue,hi,if_true];rw[e];exact hl)
 ·obtain⟨i,hi,e⟩:=Ms e;exact LJ (k:=na+i) (by omega) (by
   have e1:¬na+i<na:=(by omega);have e2:na+i-na=i:=(by omega);simp only[glue,e1,if_false,e2];rw[e];exact hl)
theorem Hq(ba:Int)(aa:Option Addr)(na ka:Nat)(fa ga:Nat->Int)(ao:Option Addr)(no ko:Nat)(ho:Nat->Int)(bb:Int)(ab:Option Addr)(nb kb:Nat)(fb gb:Nat->Int)(w:World)
 (hna:na<=maxLen)(hnb:nb<=maxLen)(hno:no<=maxLen)(hca:Ba w aa na fa ga)(hcb:Ba w ab nb fb gb)(hco:Bj w ao no ho):
 Calls prog 118 #[.agg #[.int .i64 ba,.slice aa na ka],.slice ao no ko,.agg #[.int .i64 bb,.slice ab nb kb]] w fun e w'=>e= .returned (.bool (Dc ba na fa ga no ho bb nb fb gb))/\Below w w w':=by
 have n2:No (.cells #[.int .i64 ba,.slice aa na ka] 30):=⟨⟩;have n4:No (.cells #[.int .i64 bb,.slice ab nb kb] 30):=⟨⟩;have hb0:=((((Below.refl _ w).alloc nr n2).alloc (by simp) (.cells #[.slice ao no ko] 55)).alloc (by simp;omega) n4).alloc (by simp;omega) (.cells #[.bool false] 4);obtain⟨W0,hW0⟩:∃W0,W0=((((w.alloc n2).alloc (.cells #[.slice ao no ko] 55)).alloc n4).alloc (.cells #[.bool false] 4)):=⟨_,rfl⟩;have y1:W0.cell? ⟨w,0,none⟩=some (.int .i64 ba):=by rw[hW0];go_simp
 have y2:W0.cell? ⟨w,1,none⟩=some (.slice aa na ka):=by rw[hW0];go_simp
 have y3:W0.cell? ⟨w.heap.size+1,0,none⟩=some (.slice ao no ko):=by rw[hW0];go_simp
 have y4:W0.cell? ⟨w.heap.size+1+1,0,none⟩=some (.int .i64 bb):=by rw[hW0];go_simp
 have y5:W0.cell? ⟨w.heap.size+1+1,1,none⟩=some (.slice ab nb kb):=by rw[hW0];go_simp
 have y6:W0.cell? ⟨w.heap.size+1+1+1,0,none⟩=some (.bool false):=by rw[hW0];go_simp
 have y7:W0.frozen? ⟨w.heap.size+1+1+1,0,none⟩=false:=by rw[hW0];go_simp
 have ys:W0.heap.size=w.heap.size+4:=by rw[hW0];simp
 rw[<-hW0]at hb0;have n3:Na #[.int .i64 ba,.slice aa na ka]:=⟨⟩;have n5:Na #[.int .i64 bb,.slice ab nb kb]:=⟨⟩;have HW0:Hid (W0=((((w.alloc (.cells n3 30)).alloc (.cells #[.slice ao no ko] 55)).alloc (.cells n5 30)).alloc (.cells #[.bool false] 4))):=hW0;clear hW0;have bi:Hid (∀W1,Below w w W1->W1.cell? ⟨w.heap.size+1+1+1,0,none⟩=some (.bool false)->Dc ba na fa ga no ho bb nb fb gb=false->
  ∀tm:Array Value,tm[6]? =some (.pointer (some ⟨w.heap.size+1+1+1,0,none⟩))->bodyPost prog Tryz.f118 (fun e w'=>e= .returned (.bool (Dc ba na fa ga no ho bb nb fb gb))/\Below w w w') .ret {tmps:=tm,defers:=[]} (W1.setCell ⟨w.heap.size+1+1+1,0,none⟩ (.bool false))):=fun W1 hB hc hf tm ht=>by
  have hc5:=World.cell?_setCell_same' W1 ⟨w.heap.size+1+1+1,0,none⟩ (.bool false) (by rw[hc];rfl);refine bodyPost_ret (v:= .bool false) ?_ rfl ⟨by rw[hf],hB.setCell (p:=⟨w.heap.size+1+1+1,0,none⟩) (by dsimp only;omega) _⟩;simp[results,Tryz.results118,go_sem,ht,hc5]
 by_cases good:AZ ba na fa ga=true/\AZ bb nb fb gb=true/\BJ no ho=true/\ba<=bb
 ·obtain⟨t1,t2,t3,t4⟩:=good;refine(callsIn_wide (n:=4)).1 ?_;refine callsIn_of_wp_marks func118 rfl trivial ?_ rfl;simp only[ntmps118,List.size_toArray,List.length_cons,List.length_nil,Nat.reduceAdd,Nat.reduceSub,Array.replicate_succ,Array.replicate_zero,List.push_toArray,List.append_toArray,List.nil_append,List.cons_append];gi_wp2_with fail;rw[<-HW0.out];refine⟨trivial,?_⟩;refine(callsIn_wide.2 (Ej _ _ _ _ fa ga _ hna (hca.below hb0))).mono ?_;rintro e w1 ⟨rfl,hb1⟩;have z1:w.heap.size+1+1+1<w1.heap.size:=by have:=hb1.size;omega
  have B1:Below w w w1:=hb0.trans (hb1.mono (by omega));have x1:=(hb1.cell (p:=⟨w,0,none⟩) (by dsimp only;omega)).trans y1;have x2:=(hb1.cell (p:=⟨w,1,none⟩) (by dsimp only;omega)).trans y2;have x3:=(hb1.cell (p:=⟨w.heap.size+1,0,none⟩) (by dsimp only;omega)).trans y3;have x4:=(hb1.cell (p:=⟨w.heap.size+1+1,0,none⟩) (by dsimp only;omega)).trans y4;have x5:=(hb1.cell (p:=⟨w.heap.size+1+1,1,none⟩) (by dsimp only;omega)).trans y5;have x6:=(hb1.cell (p:=⟨w.heap.size+1+1+1,0,none⟩) (by dsimp only;omega)).trans y6;have x7:=(hb1.frozen (p:=⟨w.heap.size+1+1+1,0,none⟩) (by dsimp only;omega)).trans y7;clear y1 y2 y3 y4 y5 y6 y7 hb1;gi_wp2_with fail;refine⟨trivial,?_⟩;refine(callsIn_wide.2 (Ej _ _ _ _ fb gb _ hnb (hcb.below B1))).mono ?_;rintro e w2 ⟨rfl,hb2⟩;have z2:w.heap.size+1+1+1<w2.heap.size:=by have:=hb2.size;omega
  have B2:Below w w w2:=B1.trans (hb2.mono (by omega));have u1:=(hb2.cell (p:=⟨w,0,none⟩) (by dsimp only;omega)).trans x1;have u2:=(hb2.cell (p:=⟨w,1,none⟩) (by dsimp only;omega)).trans x2;have u3:=(hb2.cell (p:=⟨w.heap.size+1,0,none⟩) (by dsimp only;omega)).trans x3;have u4:=(hb2.cell (p:=⟨w.heap.size+1+1,0,none⟩) (by dsimp only;omega)).trans x4;have u5:=(hb2.cell (p:=⟨w.heap.size+1+1,1,none⟩) (by dsimp only;omega)).trans x5;have u6:=(hb2.cell (p:=⟨w.heap.size+1+1+1,0,none⟩) (by dsimp only;omega)).trans x6;have u7:=(hb2.frozen (p:=⟨w.heap.size+1+1+1,0,none⟩) (by dsimp only;omega)).trans x7;clear x1 x2 x3 x4 x5 x6 x7 hb2;gi_wp2_with fail;refine⟨trivial,?_⟩;refine(callsIn_wide.2 (Iw _ _ _ ho _ hno (hco.below B2))).mono ?_;rintro e w3 ⟨rfl,rfl⟩;gi_wp2_with fail;refine⟨trivial,?_⟩;refine(callsIn_wide.2 (Pf _ _ _ _ _ _ _ _ _)).mono ?_;rintro e w4 ⟨rfl,h4⟩;have c1:w4.cell? ⟨w3,0,none⟩=some (.int .i64 ba):=by rw[h4];go_simp
  have c2:w4.cell? ⟨w3,1,none⟩=some (.slice aa na ka):=by rw[h4];go_simp
  have c3:w4.cell? ⟨w3.heap.size+1,0,none⟩=some (.int .i64 bb):=by rw[h4];go_simp
  have c4:w4.cell? ⟨w3.heap.size+1,1,none⟩=some (.slice ab nb kb):=by rw[h4];go_simp
  have z4:w4.heap.size=w3.heap.size+2:=by rw[h4];simp
  have hb4:Below w3 w3 w4:=by rw[h4];exact(Be _ _).alloc (by simp) _
  clear h4;have B4:Below w w w4:=B2.trans (hb4.mono (by omega));have x1:=(hb4.cell (p:=⟨w,0,none⟩) (by dsimp only;omega)).trans u1;have x2:=(hb4.cell (p:=⟨w,1,none⟩) (by dsimp only;omega)).trans u2;have x3:=(hb4.cell (p:=⟨w.heap.size+1,0,none⟩) (by dsimp only;omega)).trans u3;have x4:=(hb4.cell (p:=⟨w.heap.size+1+1,0,none⟩) (by dsimp only;omega)).trans u4;have x5:=(hb4.cell (p:=⟨w.heap.size+1+1,1,none⟩) (by dsimp only;omega)).trans u5;have x6:=(hb4.cell (p:=⟨w.heap.size+1+1+1,0,none⟩) (by dsimp only;omega)).trans u6;have x7:=(hb4.frozen (p:=⟨w.heap.size+1+1+1,0,none⟩) (by dsimp only;omega)).trans u7;clear u1 u2 u3 u4 u5 u6 u7 hb4;gi_wp2_with fail;have hLt:Ju w4 w3 (w3.heap.size+1) ba aa na ka fa ga bb ab nb kb fb gb:=⟨by omega,by omega,c1,c2,c3,c4,hca.below B4,hcb.below B4⟩;have ma:na<=1048576:=by have:=(JG t1).2.1;omega
  have mb:nb<=1048576:=by have:=(JG t2).2.1;omega
  have n1:Na #[.pointer (w3),.pointer (some ⟨w3.heap.size+1,0,none⟩)]:=⟨⟩;have hseq:SeqStopsK Fence.wide 3 prog 162 n1 (fun x:Int=>#[Value.int .i64 x]) Bu
   (fun xs=>∀x,x∈xs↔Hr ba na fa ga bb nb fb gb x=true) (fun pre=>∀x,x∈pre->Hr ba na fa ga bb nb fb gb x=true) (na+nb) w4:=fun l J Jx W hW hJ hJx hY h0=>
   callsIn_wide.2 (Pu l w3 (w3.heap.size+1) ba aa na ka fa ga bb ab nb kb fb gb J Jx W ma mb (S6 t1) (S6 t2) (hLt.below hW) hJ hY h0)
  clear c1 c2 c3 c4 hLt x1 x2 x4 x5;refine wpIn_rangeFunc_ownF rfl (by omega) (gf:=162) (lb:=#[.pointer (w3),.pointer (some ⟨w3.heap.size+1,0,none⟩)]) rfl trivial (enters_of func162 (by kernel_rfl) rfl)
   hseq Bu.trans (Bu.book (w:=w4)) (Below.refl _ _) (fun _=>rfl)
   (fun pre W=>((∀y,y∈pre->hasB no ho y=true)/\W.cell? ⟨w.heap.size+1,0,none⟩=some (.slice ao no ko)/\W.cell? ⟨w.heap.size+1+1+1,0,none⟩=some (.bool false)/\W.frozen? ⟨w.heap.size+1+1+1,0,none⟩=false)/\Below w w W)
   (fun c pre W=>(c= .ret/\(∃y,y∈pre/\hasB no ho y=false)/\W.cell? ⟨w.heap.size+1+1+1,0,none⟩=some (.bool false))/\Below w w W)
   (OwnFrom.and (Own.from (fun s A B row hs hg hr=>⟨hs.1,cell_kept hs.2.1 hg hr,cell_kept hs.2.2.1 hg hr,(frozen_kept hs.2.2.1 hg hr).trans hs.2.2.2⟩) _) (ownFrom_below nr (by omega)))
   (fun c=>OwnFrom.and (Own.from (fun s A B row hs hg hr=>⟨hs.1,hs.2.1,cell_kept hs.2.2 hg hr⟩) _) (ownFrom_below nr (by omega)))
   ⟨⟨by simp,x3,x6,x7⟩,B4⟩
   (fun x=>{tmps:=#[.agg n3,.slice ao no ko,.agg n5,.pointer (w),.pointer (some ⟨w.heap.size+1,0,none⟩),.pointer (some ⟨w.heap.size+1+1,0,none⟩),.pointer (some ⟨w.heap.size+1+1+1,0,none⟩),.int .i64 x,.agg n3,.bool true,.bool false,.bool false,.agg n5,.bool true,.bool false,.bool false,.bool false,.slice ao no ko,.bool true,.bool false,.bool false,.bool false,.pointer (w),.int .i64 ba,.pointer (some ⟨w.heap.size+1+1,0,none⟩),.int .i64 bb,.bool (decide (bb<ba)),.bool (decide (bb<ba)),.agg n3,.agg n5,.func (.func 162) #[] n1,.int .i64 x,undef,undef,undef,undef],defers:=[]}) ?assign ?body ?done ?stop
  case assign=>
   intro l x W K hK;gi_wp2;exact hK
  case body=>
   rintro l pre x W ⟨⟨hp,hcw,hcr,hfr⟩,hB⟩ _;have HP:Hid (∀y,y∈pre->hasB no ho y=true):=hp;clear hp;have hcon:=Iz ao no ko ho x W hno (hco.below hB);gi_wp2_with fail;refine⟨trivial,?_⟩;refine(CallsIn.inRound l (callsIn_wide.2 hcon)).mono ?_;clear hcon;rintro e W1 ⟨rfl,rfl⟩;cases hx:hasB no ho x with
   |true=>
    have HX:Hid (hasB no ho x=true):=hx;clear hx;gi_wp2;exact⟨KeepsOthers.refl _,Bu.refl _,⟨fun y hy=>(List.mem_append.1 hy).elim (HP y) (fun e=>by simp at e;subst e;exact HX.out),hcw,hcr,hfr⟩,hB⟩
   |false=>
    have HX:Hid (hasB no ho x=false):=hx;clear hx;gi_wp2;exact⟨KeepsOthers.setCell _ _ _,⟨rfl,⟨x,List.mem_append.2 (.inr (by simp)),HX⟩,World.cell?_setCell_same' _ _ _ (by rw[hcr];rfl)⟩,hB.setCell (p:=⟨w.heap.size+1+1+1,0,none⟩) (by dsimp only;omega) _⟩
  case done=>
   rintro D ys W hD hS ⟨⟨hne,_,hcr,hfr⟩,hB⟩ hK;have hflow:Dc ba na fa ga no ho bb nb fb gb=true:=by
    have:=Nf (no:=no) (ho:=ho) t4 (fun x hx=>hne x ((hS x).2 hx));simp[Dc,t1,t2,t3,this]
   have HF:Hid (Dc ba na fa ga no ho bb nb fb gb=true):=hflow;clear hflow hS hne;gi_wp2;have hK':=(KeepsOthers.setCell W ⟨w.heap.size+1+1+1,0,none⟩ (.bool true)).same D _ hK rfl;refine⟨by simp,.inl ⟨_,_,rfl,run_takeDeferred hK',?_⟩⟩;have hc5:=cell_kept (World.cell?_setCell_same' W ⟨w.heap.size+1+1+1,0,none⟩ (.bool true) (by rw[hcr];rfl)) (grownBy_putObj' _ D (.deferred none)) (fun r e=>by cases e;exact⟨_,hK',rfl⟩);refine⟨.bool true,?_,by rw[HF.out],(hB.setCell (p:=⟨w.heap.size+1+1+1,0,none⟩) (by dsimp only;omega) _).trans (belowK_b (w:=w) nr _ D _ _ (by omega) hK' rfl rfl)⟩;simp[results,Tryz.results118,go_sem,hc5]
  case stop=>
   rintro D c pre W hD hpre ⟨⟨rfl,⟨y,hy,hno'⟩,hcr⟩,hB⟩ hK;have HF:Hid (Dc ba na fa ga no ho bb nb fb gb=false):=(by show _=_;simp[Dc,MS (hpre y hy) hno']);clear hpre;gi_wp2;refine⟨by simp,.inl ⟨_,_,rfl,run_takeDeferred hK,?_⟩⟩;have hc5:=cell_kept hcr (grownBy_putObj' _ D (.deferred none)) (fun r e=>by cases e;exact⟨_,hK,rfl⟩);refine⟨.bool false,?_,by rw[HF.out],hB.trans (belowK_b (w:=w) nr W D _ _ (by omega) hK rfl rfl)⟩;simp[results,Tryz.results118,go_sem,hc5]
 ·go_enter func118,ntmps118
  go_wp2_with fail
  rw[<-HW0.out];refine(Ej _ _ _ _ fa ga _ hna (hca.below hb0)).mono ?_;rintro e w1 ⟨rfl,hb1⟩;have z1:w.heap.size+1+1+1<w1.heap.size:=by have:=hb1.size;omega
  have B1:Below w w w1:=hb0.trans (hb1.mono (by omega));have x1:=(hb1.cell (p:=⟨w,0,none⟩) (by dsimp only;omega)).trans y1;have x2:=(hb1.cell (p:=⟨w,1,none⟩) (by dsimp only;omega)).trans y2;have x3:=(hb1.cell (p:=⟨w.heap.size+1,0,none⟩) (by dsimp only;omega)).trans y3;have x4:=(hb1.cell (p:=⟨w.heap.size+1+1,0,none⟩) (by dsimp only;omega)).trans y4;have x5:=(hb1.cell (p:=⟨w.heap.size+1+1,1,none⟩) (by dsimp only;omega)).trans y5;have x6:=(hb1.cell (p:=⟨w.heap.size+1+1+1,0,none⟩) (by dsimp only;omega)).trans y6;have x7:=(hb1.frozen (p:=⟨w.heap.size+1+1+1,0,none⟩) (by dsimp only;omega)).trans y7;clear y1 y2 y3 y4 y5 y6 y7 hb1;by_cases t1:AZ ba na fa ga=true
  ·go_wp2_with fail
   refine(Ej _ _ _ _ fb gb _ hnb (hcb.below B1)).mono ?_;rintro e w2 ⟨rfl,hb2⟩;have z2:w.heap.size+1+1+1<w2.heap.size:=(by have:=hb2.size;omega);have B2:Below w w w2:=B1.trans (hb2.mono (by omega));have u1:=(hb2.cell (p:=⟨w,0,none⟩) (by dsimp only;omega)).trans x1;have u2:=(hb2.cell (p:=⟨w,1,none⟩) (by dsimp only;omega)).trans x2;have u3:=(hb2.cell (p:=⟨w.heap.size+1,0,none⟩) (by dsimp only;omega)).trans x3;have u4:=(hb2.cell (p:=⟨w.heap.size+1+1,0,none⟩) (by dsimp only;omega)).trans x4;have u5:=(hb2.cell (p:=⟨w.heap.size+1+1,1,none⟩) (by dsimp only;omega)).trans x5;have u6:=(hb2.cell (p:=⟨w.heap.size+1+1+1,0,none⟩) (by dsimp only;omega)).trans x6;have u7:=(hb2.frozen (p:=⟨w.heap.size+1+1+1,0,none⟩) (by dsimp only;omega)).trans x7;clear x1 x2 x3 x4 x5 x6 x7 hb2;by_cases t2:AZ bb nb fb gb=true
   ·go_wp2_with fail
    refine(Iw _ _ _ ho _ hno (hco.below B2)).mono ?_;rintro e w3 ⟨rfl,rfl⟩;by_cases t3:BJ no ho=true
    ·have t4:bb<ba:=by
      by_cases q:ba<=bb
      ·exact absurd ⟨t1,t2,t3,q⟩ good
      ·omega
     have HT:Hid (Dc ba na fa ga no ho bb nb fb gb=false):=(by show _=_;simp[Dc,Mb t4]);clear good;go_wp2;exact bi.out _ B2 u6 HT _ rfl
    ·have t3':BJ no ho=false:=(by simpa using t3);clear t3 good;have HT:Hid (Dc ba na fa ga no ho bb nb fb gb=false):=(by show _=_;simp[Dc,t3']);go_wp2;exact bi.out _ B2 u6 HT _ rfl
   ·have t2':AZ bb nb fb gb=false:=(by simpa using t2);clear t2 good;have HT:Hid (Dc ba na fa ga no ho bb nb fb gb=false):=(by show _=_;simp[Dc,t2']);go_wp2;exact bi.out w2 B2 u6 HT _ rfl
  ·have t1':AZ ba na fa ga=false:=(by simpa using t1);clear t1 good;have HT:Hid (Dc ba na fa ga no ho bb nb fb gb=false):=(by show _=_;simp[Dc,t1']);go_wp2;exact bi.out w1 B1 x6 HT _ rfl
end Go.Proofs.YtefoofaocbjdoaaGreatDoor
