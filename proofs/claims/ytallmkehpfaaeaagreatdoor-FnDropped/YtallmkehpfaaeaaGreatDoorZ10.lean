import Derived.Test.YtallmkehpfaaeaaGreatDoorZ3
import Derived.Test.YtallmkehpfaaeaaGreatDoorZ9
import Derived.Test.YtallmkehpfaaeaaGreatDoorZ1
import Derived.Test.YtallmkehpfaaeaaGreatDoorZ5
set_option maxRecDepth 100000
set_option maxHeartbeats 16000000
namespace Go.Proofs.YtallmkehpfaaeaaGreatDoor
open Go.RowKit Go.Deep Go.Maps
def hasB(n:Nat)(h:Nat→Int)(x:Int):Bool:=(List.range n).any (fun i=>h i==x)
theorem hasB_yes{n k:Nat}{h:Nat→Int}{x:Int}(hk:k<n)(e:h k=x):hasB n h x=true:=by
 unfold hasB;rw[List.any_eq_true];exact⟨k,List.mem_range.2 hk,by simpa using e⟩
theorem hasB_no{n:Nat}{h:Nat→Int}{x:Int}(e:∀i,i<n→h i≠x):hasB n h x=false:=by
 unfold hasB;rw[List.any_eq_false];intro i hi;simpa using e i (List.mem_range.1 hi)
theorem l1Has_any(a:Option Addr)(n cap:Nat)(h:Nat→Int)(x:Int)(w:World)(hn:n≤maxLen)(hc:IntsAt w a n h):
 Calls Tryz.prog 121 #[.slice a n cap,.int .i64 x] w fun e w'=>e= .returned (.bool (hasB n h x))∧w'=w:=by
 unfold maxLen at hn;go_enter Tryz.func121,Tryz.ntmps121
 go_wp2;go_loop [5] (fun i=>∃k:Nat,k≤n∧i= .int .i64 k∧(∀j,j<k→h j≠x)) (fun i=>n-(intOf i).toNat)
 case atStart=>exact⟨0,Nat.zero_le _,rfl,fun j hj=>by omega⟩
 case round=>
  obtain⟨k,hk,rfl,hall⟩:=hrel;have HA:Hid (∀j,j<k→h j≠x):=hall;clear hall;by_cases hlt':k<n
  ·obtain⟨b,off,rfl,hlt,hcc⟩:=hc (by omega);have g1:=hcc k hlt';clear hcc hc;by_cases t:(h k==x)=true
   ·go_wp2;go_ret;exact⟨ret_bool (hasB_yes hlt' (by simpa using t)).symm,rfl⟩
   ·have t':(h k==x)=false:=(by simpa using t);clear t;go_wp2;go_round;case rel=>
     refine⟨k+1,by omega,by go_num,fun j hj=>?_⟩;by_cases e:j=k
     ·subst e;simpa using t'
     ·exact HA.out j (by omega)
    case measure=>simp[intOf];omega
  ·clear hc;go_wp2;go_ret;have e:k=n:=(by omega);subst e;exact⟨ret_bool (hasB_no HA.out).symm,rfl⟩
def letB(ba:Int)(na:Nat)(fa ga:Nat→Int)(no:Nat)(ho:Nat→Int)(bb:Int)(nb:Nat)(fb gb:Nat→Int)(x:Int):Bool:=
 hasB no ho x|| !decide (levOf bb nb fb gb x<levOf ba na fa ga x)
def flowsB(ba:Int)(na:Nat)(fa ga:Nat→Int)(no:Nat)(ho:Nat→Int)(bb:Int)(nb:Nat)(fb gb:Nat→Int):Bool:=
 decide (ba≤bb)&&(List.range (na+nb)).all (fun i=>letB ba na fa ga no ho bb nb fb gb (glue na fa fb i))
theorem flowsB_base{ba:Int}{na:Nat}{fa ga:Nat→Int}{no:Nat}{ho:Nat→Int}{bb:Int}{nb:Nat}{fb gb:Nat→Int}(h:bb<ba):flowsB ba na fa ga no ho bb nb fb gb=false:=by
 have:decide (ba≤bb)=false:=by simp;omega
 simp[flowsB,this]
theorem flowsB_at{ba:Int}{na:Nat}{fa ga:Nat→Int}{no:Nat}{ho:Nat→Int}{bb:Int}{nb:Nat}{fb gb:Nat→Int}{k:Nat}(hk:k<na+nb)(h:letB ba na fa ga no ho bb nb fb gb (glue na fa fb k)=false):flowsB ba na fa ga no ho bb nb fb gb=false:=by
 have:(List.range (na+nb)).all (fun i=>letB ba na fa ga no ho bb nb fb gb (glue na fa fb i))=false:=by
  rw[List.all_eq_false];exact⟨k,List.mem_range.2 hk,by simp[h]⟩
 simp[flowsB,this]
theorem flowsB_mk{ba:Int}{na:Nat}{fa ga:Nat→Int}{no:Nat}{ho:Nat→Int}{bb:Int}{nb:Nat}{fb gb:Nat→Int}(h0:ba≤bb)(h:∀i,i<na+nb→letB ba na fa ga no ho bb nb fb gb (glue na fa fb i)=true):flowsB ba na fa ga no ho bb nb fb gb=true:=by
 have:(List.range (na+nb)).all (fun i=>letB ba na fa ga no ho bb nb fb gb (glue na fa fb i))=true:=by
  rw[List.all_eq_true];intro i hi;exact h i (List.mem_range.1 hi)
 simp[flowsB,this,h0]
theorem l1Flows_any(ba:Int)(aa:Option Addr)(na ka:Nat)(fa ga:Nat→Int)(ao:Option Addr)(no ko:Nat)(ho:Nat→Int)(bb:Int)(ab:Option Addr)(nb kb:Nat)(fb gb:Nat→Int)(w:World)
 (hna:na≤1048576)(hnb:nb≤1048576)(hno:no≤maxLen)(hca:CatsAt w aa na fa ga)(hcb:CatsAt w ab nb fb gb)(hco:IntsAt w ao no ho)
 (hra:∀j,j<na→∀i,i<j→fa i<fa j)(hrb:∀j,j<nb→∀i,i<j→fb i<fb j):
 Calls Tryz.prog 119 #[.agg #[.int .i64 ba,.slice aa na ka],.slice ao no ko,.agg #[.int .i64 bb,.slice ab nb kb]] w fun e w'=>e= .returned (.bool (flowsB ba na fa ga no ho bb nb fb gb))∧Below w.heap.size w w':=by
 have n3:Na #[.int .i64 ba,.slice aa na ka]:=⟨⟩;have n4:Na #[.int .i64 bb,.slice ab nb kb]:=⟨⟩;have hb0:=((Below.refl _ w).alloc (Nat.le_refl _) (.cells n3 30)).alloc (by simp) (.cells n4 30);by_cases h0:bb<ba
 ·go_enter Tryz.func119,Tryz.ntmps119
  go_wp2;go_ret;exact⟨ret_bool (flowsB_base h0).symm,hb0⟩
 ·go_enter Tryz.func119,Tryz.ntmps119
  go_wp2_with fail
  have n1:Nw ((w.alloc (.cells n3 30)).alloc (.cells n4 30)):=⟨⟩;have own0:OwnCats (((n1:World).alloc (.cells #[] 95)).drew) (w.heap.size+1+1) (.slice (some ⟨w.heap.size+1+1,0,none⟩) 0 0) 0 (fun _=>0) (fun _=>0):=by
   have:=World.ownsRow_made (base:=w.heap.size+1+1) (e:=95) (size:=2) n1 #[] 0 (by simp) (Nat.zero_le _) rfl;simp at this;exact this
  have B0:=(hb0.alloc (by simp;omega) (.cells #[] 95)).drew;have C0a:=hca.below B0;obtain⟨D0,hD0⟩:∃D0,D0=((n1:World).alloc (.cells #[] 95)).drew:=⟨_,rfl⟩;have d1:D0.cell? ⟨w.heap.size,0,none⟩=some (.int .i64 ba):=by rw[hD0];go_simp
  have d2:D0.cell? ⟨w.heap.size,1,none⟩=some (.slice aa na ka):=by rw[hD0];go_simp
  have d3:D0.cell? ⟨w.heap.size+1,0,none⟩=some (.int .i64 bb):=by rw[hD0];go_simp
  have d4:D0.cell? ⟨w.heap.size+1,1,none⟩=some (.slice ab nb kb):=by rw[hD0];go_simp
  have dz:w.heap.size+1+1≤D0.heap.size:=by rw[hD0];simp
  have n2:Nw (((w.alloc (.cells n3 30)).alloc (.cells n4 30)).alloc (.cells #[] 95)):=⟨⟩;have HD:Hid (D0=(n2:World).drew):=hD0;have GG:∀w1,((n2:World).drew).grownBy w1 (Value.slice (some ⟨w.heap.size+1+1,0,none⟩) 0 0).ownBlock→Below (w.heap.size+1+1) D0 w1:=fun w1 hg=>by
   rw[←HD.out]at hg;exact(Below.refl _ _).grown hg dz (fun k e=>by cases e;exact Nat.le_refl _)
  have B0':Below w.heap.size w D0:=by rw[hD0];exact B0
  clear hD0;go_region_held3(fun w'=>w'.cell? ⟨w.heap.size,0,none⟩=some (.int .i64 ba)∧w'.cell? ⟨w.heap.size,1,none⟩=some (.slice aa na ka)∧w'.cell? ⟨w.heap.size+1,0,none⟩=some (.int .i64 bb)∧w'.cell? ⟨w.heap.size+1,1,none⟩=some (.slice ab nb kb)) (go_keep)
   (first
     |(refine step_append_cats0 _ (by rfl) _ _ (by rfl) (w.heap.size+1+1) _ (fun _=>0) (fun _=>0) (by rfl) own0 aa na ka fa ga (by rfl) C0a (by omega) (by simp) ?_;intro a1 c1 w1 hown1 hgrow1 hat1;have G1:=GG w1 hgrow1;have p1:=(G1.cell (p:=⟨w.heap.size,0,none⟩) (by dsimp only;omega)).trans d1;have p2:=(G1.cell (p:=⟨w.heap.size,1,none⟩) (by dsimp only;omega)).trans d2;have p3:=(G1.cell (p:=⟨w.heap.size+1,0,none⟩) (by dsimp only;omega)).trans d3;have p4:=(G1.cell (p:=⟨w.heap.size+1,1,none⟩) (by dsimp only;omega)).trans d4;have s1:w.heap.size+1+1≤w1.heap.size:=Nat.le_trans dz G1.size;have B1:Below w.heap.size w w1:=B0'.trans (G1.mono (by omega));have C1b:=hcb.below B1)
     |(refine step_append_cats _ (by rfl) _ _ (by rfl) (w.heap.size+1+1) _ na fa ga (by rfl) hown1 ab nb kb fb gb (by rfl) C1b (by omega) s1 ?_;intro a2 c2 w2 hown2 hgrow2 hat2;have G2:Below (w.heap.size+1+1) w1 w2:=(Below.refl _ _).grown hgrow2 s1 (fun k e=>(World.ownsRow.lt hown1 k e).1);have q1:=(G2.cell (p:=⟨w.heap.size,0,none⟩) (by dsimp only;omega)).trans p1;have q2:=(G2.cell (p:=⟨w.heap.size,1,none⟩) (by dsimp only;omega)).trans p2;have q3:=(G2.cell (p:=⟨w.heap.size+1,0,none⟩) (by dsimp only;omega)).trans p3;have q4:=(G2.cell (p:=⟨w.heap.size+1,1,none⟩) (by dsimp only;omega)).trans p4;have s2:w.heap.size+1+1≤w2.heap.size:=Nat.le_trans s1 G2.size;have B2:Below w.heap.size w w2:=B1.trans (G2.mono (by omega))))
  have C2:=OwnCats.cats hown2;have C2a:=hca.below B2;have C2b:=hcb.below B2;have C2o:=hco.below B2;clear p1 p2 p3 p4 d1 d2 d3 d4 hca hcb hco B0 C0a own0 hb0 hown1 hgrow1 hat1 hgrow2 hat2 hown2 G1 G2 GG HD s1 C1b B1 dz B0';go_wp2;go_loopw [8] (fun i wr=>∃k:Nat,k≤na+nb∧i= .int .i64 k∧(∀j,j<k→letB ba na fa ga no ho bb nb fb gb (glue na fa fb j)=true)∧Below w2.heap.size w2 wr) (fun i _=>na+nb-(intOf i).toNat)
  case atStart=>exact⟨0,Nat.zero_le _,rfl,fun j hj=>by omega,Below.refl _ _⟩
  case round=>
   obtain⟨k,hk,rfl,hall,hB⟩:=hrel;have HA:Hid (∀j,j<k→letB ba na fa ga no ho bb nb fb gb (glue na fa fb j)=true):=hall;clear hall;have Bw:Below w.heap.size w wr:=B2.trans (hB.mono (by omega));by_cases hlt':k<na+nb
   ·obtain⟨b,off,rfl,hlt,hcc⟩:=C2 (by omega);have r5:=(hB.cell (p:=⟨b,off+k*2,none⟩) hlt).trans (hcc k hlt').1;have r1:=(hB.cell (p:=⟨w.heap.size,0,none⟩) (by dsimp only;omega)).trans q1;have r2:=(hB.cell (p:=⟨w.heap.size,1,none⟩) (by dsimp only;omega)).trans q2;have r3:=(hB.cell (p:=⟨w.heap.size+1,0,none⟩) (by dsimp only;omega)).trans q3;have r4:=(hB.cell (p:=⟨w.heap.size+1,1,none⟩) (by dsimp only;omega)).trans q4;have i0:(0:Int)≤(k:Int):=(by omega);have i1:(k:Int)<((na+nb:Nat):Int):=(by omega);have i1':(k:Int)<(na:Int)+(nb:Int):=(by omega);have y1:w.heap.size<wr.heap.size:=(by have:=hB.size;omega);have y2:w.heap.size+1<wr.heap.size:=(by have:=hB.size;omega);have y3:b<wr.heap.size:=(by have:=hB.size;omega);have Ca:CatsAt wr.drew aa na fa ga:=(C2a.below hB).below (Below.refl _ _).drew;have Cb:CatsAt wr.drew ab nb fb gb:=(C2b.below hB).below (Below.refl _ _).drew;have Co:IntsAt wr ao no ho:=C2o.below hB;obtain⟨x,hx⟩:∃x,x=glue na fa fb k:=⟨_,rfl⟩;rw[←hx]at r5;have HX:Hid (x=glue na fa fb k):=hx;clear hx hcc C2 C2a C2b C2o q1 q2 q3 q4;by_cases t:hasB no ho x=true
    ·clear Ca Cb;have t':letB ba na fa ga no ho bb nb fb gb x=true:=(by simp[letB,t]);have HT:Hid (letB ba na fa ga no ho bb nb fb gb x=true):=t';clear t';go_wp2_with fail
     have CoN:∀m,IntsAt (wr.drewN m) ao no ho:=fun m=>Co.below (below_drewN (Below.refl _ _) m);go_quiet((go_at_call 121;exact Calls.quiet_of_same (l1Has_any _ _ _ ho _ _ hno (CoN _))))
     clear CoN;go_wp2;go_roundw;case rel=>
      refine⟨k+1,by omega,by go_num,fun j hj=>?_,below_drewN hB _⟩;by_cases e:j=k
      ·subst e;rw[←HX.out];exact HT.out
      ·exact HA.out j (by omega)
     case measure=>simp[intOf];omega
    ·have t0:hasB no ho x=false:=(by simpa using t);clear t;have Co':IntsAt wr.drew ao no ho:=Co.below (Below.refl _ _).drew;have HRA:Hid (∀j,j<na→∀i,i<j→fa i<fa j):=hra;have HRB:Hid (∀j,j<nb→∀i,i<j→fb i<fb j):=hrb;have ma:na≤maxLen:=(by unfold maxLen;omega);have mb:nb≤maxLen:=(by unfold maxLen;omega);clear Co hra hrb;go_wp2_with fail
     go_region_held3(fun w'=>w'.cell? ⟨w.heap.size,0,none⟩=some (.int .i64 ba)∧w'.cell? ⟨w.heap.size,1,none⟩=some (.slice aa na ka)∧w'.cell? ⟨w.heap.size+1,0,none⟩=some (.int .i64 bb)∧w'.cell? ⟨w.heap.size+1,1,none⟩=some (.slice ab nb kb)∧w'.cell? ⟨b,off+k*2,none⟩=some (.int .i64 x)) (go_keep)
      (first
        |(go_at_call 121;refine(l1Has_any _ _ _ ho _ _ hno Co').mono ?_;rintro e w' ⟨rfl,rfl⟩)
        |(go_at_call 155;refine(l1Level_any bb ab nb kb fb gb x _ mb (Cb.below hb1) HRB.out).mono ?_;rintro e v2 ⟨rfl,hb2⟩;have u1:=(hb2.cell (p:=⟨w.heap.size,0,none⟩) (Nat.lt_of_lt_of_le y1 hb1.size)).trans p1;have u2:=(hb2.cell (p:=⟨w.heap.size,1,none⟩) (Nat.lt_of_lt_of_le y1 hb1.size)).trans p2;have u3:=(hb2.cell (p:=⟨w.heap.size+1,0,none⟩) (Nat.lt_of_lt_of_le y2 hb1.size)).trans p3;have u4:=(hb2.cell (p:=⟨w.heap.size+1,1,none⟩) (Nat.lt_of_lt_of_le y2 hb1.size)).trans p4;have u5:=(hb2.cell (p:=⟨b,off+k*2,none⟩) (Nat.lt_of_lt_of_le y3 hb1.size)).trans p5)
        |(go_at_call 155;refine(l1Level_any ba aa na ka fa ga x _ ma Ca HRA.out).mono ?_;rintro e v1 ⟨rfl,hb1⟩;have p1:=(hb1.cell (p:=⟨w.heap.size,0,none⟩) y1).trans r1;have p2:=(hb1.cell (p:=⟨w.heap.size,1,none⟩) y1).trans r2;have p3:=(hb1.cell (p:=⟨w.heap.size+1,0,none⟩) y2).trans r3;have p4:=(hb1.cell (p:=⟨w.heap.size+1,1,none⟩) y2).trans r4;have p5:=(hb1.cell (p:=⟨b,off+k*2,none⟩) y3).trans r5))
     have hBv:Below w2.heap.size w2 v2:=(hB.drew.trans (hb1.mono hB.size)).trans (hb2.mono (Nat.le_trans hB.size hb1.size));clear r1 r2 r3 r4 r5 p1 p2 p3 p4 p5 u1 u2 u3 u4 u5 Ca Cb Co' hb1 hb2 HRA HRB;by_cases t1:levOf bb nb fb gb x<levOf ba na fa ga x
     ·have HT:Hid (letB ba na fa ga no ho bb nb fb gb x=false):=(by show _=_;simp[letB,t0,t1]);go_wp2;go_ret;refine⟨ret_bool (flowsB_at hlt' ?_).symm,B2.trans (hBv.mono (by omega))⟩;rw[←HX.out];exact HT.out
     ·have HT:Hid (letB ba na fa ga no ho bb nb fb gb x=true):=(by show _=_;simp[letB,t0,t1]);go_wp2;go_roundw;case rel=>
       refine⟨k+1,by omega,by go_num,fun j hj=>?_,hBv⟩;by_cases e:j=k
       ·subst e;rw[←HX.out];exact HT.out
       ·exact HA.out j (by omega)
      case measure=>simp[intOf];omega
   ·go_wp2;go_ret;have e:k=na+nb:=(by omega);exact⟨ret_bool (flowsB_mk h0 (fun i hi=>HA.out i (by omega))).symm,Bw⟩
open Go
theorem l2Sees_any(id made b1:Int)(a1:Option Addr)(n1 k1:Nat)(f1 g1:Nat→Int)(b2:Int)(a2:Option Addr)(n2 k2:Nat)(f2 g2:Nat→Int)(a3:Option Addr)(n3 k3:Nat)(h:Nat→Int)(bl:Int)(al:Option Addr)(nl kl:Nat)(fl gl:Nat→Int)(w:World)(_hn1:n1≤maxLen)(_hn2:n2≤maxLen)(hn3:n3≤maxLen)(hc1:CatsAt w a1 n1 f1 g1)(_hc2:CatsAt w a2 n2 f2 g2)(hc3:IntsAt w a3 n3 h)(_hnl:nl≤maxLen)(hcl:CatsAt w al nl fl gl)(hm1:n1≤1048576)(hml:nl≤1048576)(hr1:∀j,j<n1→∀i,i<j→f1 i<f1 j)(hrl:∀j,j<nl→∀i,i<j→fl i<fl j):
 Calls Tryz.prog 126 #[.agg #[.int .i64 id,.int .i64 b1,.slice a1 n1 k1,.int .i64 b2,.slice a2 n2 k2,.slice a3 n3 k3,.int .i64 made],.agg #[.int .i64 bl,.slice al nl kl]] w fun e w'=>e= .returned (.bool (flowsB bl nl fl gl n3 h b1 n1 f1 g1))∧Below w.heap.size w w':=by
 have n4:No (.cells #[.int .i64 id,.int .i64 b1,.slice a1 n1 k1,.int .i64 b2,.slice a2 n2 k2,.slice a3 n3 k3,.int .i64 made] 42):=⟨⟩;have n5:No (.cells #[.int .i64 bl,.slice al nl kl] 30):=⟨⟩;have hb0:=((Below.refl _ w).alloc (Nat.le_refl _) n4).alloc (by simp) n5;have yT:Blk ((w.alloc n4).alloc n5) w.heap.size n4:=(Blk.new w _).alloc _;have yL:Blk ((w.alloc n4).alloc n5) (w.heap.size+1) n5:=by have:=Blk.new (w.alloc n4) n5;simpa using this
 go_enter Tryz.func126,Tryz.ntmps126
 go_wp2_with fail
 refine(l1Flows_any _ _ _ _ fl gl _ _ _ h _ _ _ _ f1 g1 _ hml hm1 hn3 (hcl.below hb0) (hc1.below hb0) (hc3.below hb0) hrl hr1).mono ?_;rintro e w1 ⟨rfl,hb1⟩;have B1:Below w.heap.size w w1:=hb0.trans (hb1.mono (by simp;omega));clear yT yL hb0 hb1;go_wp2;go_ret;exact⟨rfl,B1⟩
theorem l2Changes_any(id made b1:Int)(a1:Option Addr)(n1 k1:Nat)(f1 g1:Nat→Int)(b2:Int)(a2:Option Addr)(n2 k2:Nat)(f2 g2:Nat→Int)(a3:Option Addr)(n3 k3:Nat)(h:Nat→Int)(bl:Int)(al:Option Addr)(nl kl:Nat)(fl gl:Nat→Int)(w:World)(hn1:n1≤maxLen)(hn2:n2≤maxLen)(hn3:n3≤maxLen)(hc1:CatsAt w a1 n1 f1 g1)(hc2:CatsAt w a2 n2 f2 g2)(hc3:IntsAt w a3 n3 h)(hnl:nl≤maxLen)(hcl:CatsAt w al nl fl gl)(hm1:n1≤1048576)(hml:nl≤1048576)(hr1:∀j,j<n1→∀i,i<j→f1 i<f1 j)(hrl:∀j,j<nl→∀i,i<j→fl i<fl j):
 Calls Tryz.prog 122 #[.agg #[.int .i64 id,.int .i64 b1,.slice a1 n1 k1,.int .i64 b2,.slice a2 n2 k2,.slice a3 n3 k3,.int .i64 made],.agg #[.int .i64 bl,.slice al nl kl]] w fun e w'=>e= .returned (.bool (flowsB bl nl fl gl n3 h b1 n1 f1 g1&&flowsB b1 n1 f1 g1 n3 h bl nl fl gl))∧Below w.heap.size w w':=by
 have n4:No (.cells #[.int .i64 id,.int .i64 b1,.slice a1 n1 k1,.int .i64 b2,.slice a2 n2 k2,.slice a3 n3 k3,.int .i64 made] 42):=⟨⟩;have n5:No (.cells #[.int .i64 bl,.slice al nl kl] 30):=⟨⟩;have hb0:=((Below.refl _ w).alloc (Nat.le_refl _) n4).alloc (by simp) n5;have yT:Blk ((w.alloc n4).alloc n5) w.heap.size n4:=(Blk.new w _).alloc _;have yL:Blk ((w.alloc n4).alloc n5) (w.heap.size+1) n5:=by have:=Blk.new (w.alloc n4) n5;simpa using this
 go_enter Tryz.func122,Tryz.ntmps122
 go_wp2_with fail
 refine(l2Sees_any _ _ _ _ _ _ f1 g1 _ _ _ _ f2 g2 _ _ _ h _ _ _ _ fl gl _ hn1 hn2 hn3 (hc1.below hb0) (hc2.below hb0) (hc3.below hb0) hnl (hcl.below hb0) hm1 hml hr1 hrl).mono ?_;rintro e w1 ⟨rfl,hb1⟩;have B1:Below w.heap.size w w1:=hb0.trans (hb1.mono (by simp;omega));have xT:=yT.below hb1;have xL:=yL.below hb1;obtain⟨x0,x1,x2,x3,x4,x5,x6⟩:=xT.seven;obtain⟨x7,x8⟩:=xL.two;clear yT yL hb0 hb1;by_cases t1:flowsB bl nl fl gl n3 h b1 n1 f1 g1=true
 ·go_wp2_with fail
  refine(l1Flows_any _ _ _ _ f1 g1 _ _ _ h _ _ _ _ fl gl _ hm1 hml hn3 (hc1.below B1) (hcl.below B1) (hc3.below B1) hr1 hrl).mono ?_;rintro e w2 ⟨rfl,hb2⟩;have B2:Below w.heap.size w w2:=B1.trans (hb2.mono B1.size);clear x0 x1 x2 x3 x4 x5 x6 x7 x8 xT xL;go_wp2;go_ret;exact⟨ret_bool (by rw[t1];rfl),B2⟩
 ·have t1':flowsB bl nl fl gl n3 h b1 n1 f1 g1=false:=by simpa using t1
  clear t1;go_wp2;go_ret;exact⟨ret_bool (by rw[t1'];rfl),B1⟩
open Go.BigFrame Go.Shelf
theorem self_results{F:Func}(tmps:Array Value)(W:World)(P n:Nat)(x y u v:Value)(hF:F.results=#[.cell n 27,.tmp (n+1),.tmp (n+2)])(h:Blk W P (.cells #[x,y] 27))(h2:tmps[n]? =some (.pointer (some ⟨P,0,none⟩)))(h3:tmps[n+1]? =some u)(h4:tmps[n+2]? =some v):
 (results F tmps).run Tryz.prog W= .ok (.tuple #[.agg #[x,y],u,v]) W:=by
 obtain⟨z0,z1⟩:=h.two;simp[results,hF,go_sem,h2,h3,h4,z0,z1]
theorem KSt.cell7{w:World}{B g ca:Nat}{vo:Value}{lt:List ThrV}{lo:List ObjV}(h:KSt w B (.slice (some ⟨g,0,none⟩) lt.length ca) vo lt lo){t:Nat}(ht:t<lt.length):Cells7 w g (t*7) lt[t]∧g<w.heap.size:=by
 obtain⟨b,off,e,hlt,hc⟩:=h.t.lies (fun x hx=>(h.tn x hx).at) (by omega);simp only[Option.some.injEq,Addr.mk.injEq,and_true]at e;obtain⟨rfl,rfl⟩:=e;have h1:=(hc t ht).1;have e1:atOwnT lt t=lt[t]:=by simp[atOwnT,ht]
 rw[e1,Nat.zero_add]at h1;exact⟨h1,hlt⟩
theorem KSt.cell10{w:World}{B g co:Nat}{vt:Value}{lt:List ThrV}{lo:List ObjV}(h:KSt w B vt (.slice (some ⟨g,0,none⟩) lo.length co) lt lo){t:Nat}(ht:t<lo.length)(hd:∀x∈lo,x.data.size≤maxLen):Cells10 w g (t*10) lo[t]∧g<w.heap.size:=by
 obtain⟨b,off,e,hlt,hc⟩:=h.o.lies (fun x hx=>⟨(h.on x hx).1.1,(h.on x hx).2.1.1,(h.on x hx).2.2.1.1,(h.on x hx).2.2.2.1,hd x hx⟩) (by omega);simp only[Option.some.injEq,Addr.mk.injEq,and_true]at e;obtain⟨rfl,rfl⟩:=e;have h1:=(hc t ht).1;have e1:atOwnOb lo t=lo[t]:=by simp[atOwnOb,ht]
 rw[e1,Nat.zero_add]at h1;exact⟨h1,hlt⟩
theorem set_same{α:Type}{l:List α}{t:Nat}(ht:t<l.length):l.set t l[t]=l:=by
 refine List.ext_getElem (by simp) fun i h1 h2=>?_;rw[List.getElem_set];split
 ·rename_i e;subst e;rfl
 ·rfl
theorem KSt.setLab{w:World}{B g ca:Nat}{vo:Value}{lt:List ThrV}{lo:List ObjV}(h:KSt w B (.slice (some ⟨g,0,none⟩) lt.length ca) vo lt lo){t:Nat}{b:Int}{d:CatL}(ht:t<lt.length){X:ThrV}(hX:X=lt[t])(hd:d.new B w):
 KSt ((w.setCell ⟨g,t*7+1,none⟩ (.int .i64 b)).setCell ⟨g,t*7+2,none⟩ (.slice d.a d.n d.k)) B (.slice (some ⟨g,0,none⟩) lt.length ca) vo (lt.set t ⟨X.id,b,d,X.b2,X.c2,X.own,X.made⟩) lo∧(∃cur,Blk w g (.cells cur 42))∧B≤g:=by
 have hn:=h.tn _ (List.getElem_mem ht);have hc:=h.tc _ (List.getElem_mem ht);rw[←hX]at hn hc;obtain⟨k1,⟨cur,hcur⟩,hg⟩:=h.setT (x:=⟨X.id,b,X.c1,X.b2,X.c2,X.own,X.made⟩) (u:= .int .i64 b) ht (i:=1) (by omega) (by rw[←hX];rfl) hn hc;have el:(lt.set t (⟨X.id,b,X.c1,X.b2,X.c2,X.own,X.made⟩:ThrV)).length=lt.length:=by simp
 have kl:=keeps_set (i:=t*7+1) hcur (by decide) (.int .i64 b);have ht':t<(lt.set t (⟨X.id,b,X.c1,X.b2,X.c2,X.own,X.made⟩:ThrV)).length:=by rw[el];exact ht
 obtain⟨k2,_,_⟩:=k1.setT (x:=⟨X.id,b,d,X.b2,X.c2,X.own,X.made⟩) (u:= .slice d.a d.n d.k) ht' (i:=2) (by omega) (by rw[List.getElem_set_self];rfl) ⟨hd.keeps kl,hn.2.1.keeps kl,hn.2.2.keeps kl⟩ hc;rw[List.set_set]at k2;have e2:(lt.set t (⟨X.id,b,d,X.b2,X.c2,X.own,X.made⟩:ThrV)).length=lt.length:=by simp
 rw[e2]at k2;exact⟨k2,⟨cur,hcur⟩,hg⟩
def RiseL(c:CatL):Prop:=∀j,j<c.n→∀i,i<j→c.f i<c.f j
def raiseB(x:ThrV)(s:StepV):Bool:=flowsB x.b1 x.c1.n x.c1.f x.c1.g x.own.n x.own.h s.b1 s.c1.n s.c1.f s.c1.g&&flowsB s.b1 s.c1.n s.c1.f s.c1.g x.own.n x.own.h x.b2 x.c2.n x.c2.f x.c2.g
theorem l4Self_raise(lt:List ThrV)(lo:List ObjV)(g ca:Nat)(oa:Option Addr)(co B:Nat)(w:World)(st:KSt w B (.slice (some ⟨g,0,none⟩) lt.length ca) (.slice oa lo.length co) lt lo)(hB:B≤w.heap.size)(t:Nat)(ht:t<lt.length)(X:ThrV)(hX:X=lt[t])(xs:X.small)(s:StepV)(hs:s.at w)(hk:s.kind=12)(hn1:s.c1.n≤1048576)
 (r1:RiseL X.c1)(r2:RiseL X.c2)(r3:RiseL s.c1):
 Calls Tryz.prog 83 #[.agg #[.slice (some ⟨g,0,none⟩) lt.length ca,.slice oa lo.length co],.int .i64 t,.agg #[.int .i64 s.th,.int .i64 s.kind,.int .i64 s.id,.int .i64 s.to,.int .i64 s.cat,.string s.data,.int .i64 s.b1,.slice s.c1.a s.c1.n s.c1.k,.int .i64 s.b2,.slice s.c2.a s.c2.n s.c2.k]] w fun e w'=>∃(x:ThrV) (c:Int),e= .returned (.tuple #[.agg #[.slice (some ⟨g,0,none⟩) lt.length ca,.slice oa lo.length co],.int .i64 c,.string ⟨#[]⟩])∧KSt w' B (.slice (some ⟨g,0,none⟩) lt.length ca) (.slice oa lo.length co) (lt.set t x) lo∧Below B w w'∧((c=4∧raiseB X s=false∧x=X)∨(c=0∧raiseB X s=true∧∃d:CatL,s.c1.same d∧x=⟨X.id,s.b1,d,X.b2,X.c2,X.own,X.made⟩)):=by
 obtain⟨th,kd,id_,to_,cat,dat,sb1,sc1,sb2,sc2⟩:=s;simp only at hk hn1 r3 ⊢;subst hk;have XN:Hid (X.new B w∧(X.own.n≤X.own.k∧X.own.k≤maxLen)):=hid (by rw[hX];exact⟨st.tn _ (List.getElem_mem ht),st.tc _ (List.getElem_mem ht)⟩);have XA:Hid (X.at w):=hid XN.out.1.at;obtain⟨CW,gl⟩:=st.cell7 ht;rw[←hX]at CW;have n3:No (.cells #[.int .i64 th,.int .i64 12,.int .i64 id_,.int .i64 to_,.int .i64 cat,.string dat,.int .i64 sb1,.slice sc1.a sc1.n sc1.k,.int .i64 sb2,.slice sc2.a sc2.n sc2.k] 32):=⟨⟩;have n4:No (.cells #[.slice (some ⟨g,0,none⟩) lt.length ca,.slice oa lo.length co] 27):=⟨⟩;have n5:No (.cells #[.slice none 0 0,.slice none 0 0] 27):=⟨⟩;have n1:Nw (((w.alloc n4).alloc n3).alloc n5):=⟨⟩;have b3:Below w.heap.size w n1:=(((Below.refl _ w).alloc (Nat.le_refl _) _).alloc (by simp) _).alloc (by simp;omega) _;have CC:=CW.below gl b3;have q0:(n1:World).cell? ⟨g,t*7,none⟩=some (.int .i64 X.id):=CC.c0;have q1:(n1:World).cell? ⟨g,t*7+1,none⟩=some (.int .i64 X.b1):=CC.c1;have q2:(n1:World).cell? ⟨g,t*7+2,none⟩=some (.slice X.c1.a X.c1.n X.c1.k):=CC.c2;have q3:(n1:World).cell? ⟨g,t*7+3,none⟩=some (.int .i64 X.b2):=CC.c3;have q4:(n1:World).cell? ⟨g,t*7+4,none⟩=some (.slice X.c2.a X.c2.n X.c2.k):=CC.c4;have q5:(n1:World).cell? ⟨g,t*7+5,none⟩=some (.slice X.own.a X.own.n X.own.k):=CC.c5;have q6:(n1:World).cell? ⟨g,t*7+6,none⟩=some (.int .i64 X.made):=CC.c6;have n2:No (.cells #[.int .i64 X.id,.int .i64 X.b1,.slice X.c1.a X.c1.n X.c1.k,.int .i64 X.b2,.slice X.c2.a X.c2.n X.c2.k,.slice X.own.a X.own.n X.own.k,.int .i64 X.made] 42):=⟨⟩;have b0:Below w.heap.size w ((n1:World).alloc n2):=((((Below.refl _ w).alloc (Nat.le_refl _) _).alloc (by simp) _).alloc (by simp;omega) _).alloc (by simp;omega) _;have A0:Blk ((n1:World).alloc n2) w.heap.size n4:=(((Blk.new w _).alloc _).alloc _).alloc _;have P0:Blk ((n1:World).alloc n2) (w.heap.size+1) n3:=by have:=((Blk.new (w.alloc n4) n3).alloc n5).alloc n2;simpa using this
 have R0:Blk ((n1:World).alloc n2) (w.heap.size+1+1) n5:=by have:=(Blk.new ((w.alloc n4).alloc n3) n5).alloc n2;simpa using this
 have X0:Blk ((n1:World).alloc n2) (w.heap.size+1+1+1) n2:=by have:=Blk.new n1 n2;simpa using this
 have HS:=hid (st.below b0);have HB:=hid b0;have HA:=hid A0;have HP:=hid P0;have HR:=hid R0;have HX:=hid X0;have SA:=hid hs;have EX:=hid hX;have i0:(0:Int)≤(t:Int):=by omega
 have i1:(t:Int)<(lt.length:Int):=by omega
 have n6:Na #[.int .i64 sb1,.slice sc1.a sc1.n sc1.k]:=⟨⟩;have F1:Hid (∀W,Below w.heap.size w W→Calls Tryz.prog 119 #[.agg #[.int .i64 X.b1,.slice X.c1.a X.c1.n X.c1.k],.slice X.own.a X.own.n X.own.k,.agg n6] W fun e w'=>e= .returned (.bool (flowsB X.b1 X.c1.n X.c1.f X.c1.g X.own.n X.own.h sb1 sc1.n sc1.f sc1.g))∧Below W.heap.size W w'):=hid (fun W hW=>l1Flows_any _ _ _ _ X.c1.f X.c1.g _ _ _ X.own.h _ _ _ _ sc1.f sc1.g W xs.1 hn1 (XA.out.2.2.1) ((XA.out.below hW).1.2) ((SA.out.below hW).1.2) ((XA.out.below hW).2.2.2) r1 r3);have F2:Hid (∀W,Below w.heap.size w W→Calls Tryz.prog 119 #[.agg n6,.slice X.own.a X.own.n X.own.k,.agg #[.int .i64 X.b2,.slice X.c2.a X.c2.n X.c2.k]] W fun e w'=>e= .returned (.bool (flowsB sb1 sc1.n sc1.f sc1.g X.own.n X.own.h X.b2 X.c2.n X.c2.f X.c2.g))∧Below W.heap.size W w'):=hid (fun W hW=>l1Flows_any _ _ _ _ sc1.f sc1.g _ _ _ X.own.h _ _ _ _ X.c2.f X.c2.g W hn1 xs.2.1 (XA.out.2.2.1) ((SA.out.below hW).1.2) ((XA.out.below hW).2.1.2) ((XA.out.below hW).2.2.2) r3 r2);have CLB:Hid (∀W,Below w.heap.size w W→Calls Tryz.prog 120 #[.agg n6] W fun e w'=>∃d:CatL,e= .returned (.agg #[.int .i64 sb1,.slice d.a d.n d.k])∧sc1.same d∧d.new W.heap.size w'∧Below W.heap.size W w'):=hid (fun W hW=>l3CopyLabel_any sb1 sc1 W (SA.out.below hW).1 hn1);have ER:Hid (raiseB X ⟨th,12,id_,to_,cat,dat,sb1,sc1,sb2,sc2⟩=(flowsB X.b1 X.c1.n X.c1.f X.c1.g X.own.n X.own.h sb1 sc1.n sc1.f sc1.g&&flowsB sb1 sc1.n sc1.f sc1.g X.own.n X.own.h X.b2 X.c2.n X.c2.f X.c2.g)):=hid rfl;generalize flowsB X.b1 X.c1.n X.c1.f X.c1.g X.own.n X.own.h sb1 sc1.n sc1.f sc1.g=f1 at *;generalize flowsB sb1 sc1.n sc1.f sc1.g X.own.n X.own.h X.b2 X.c2.n X.c2.f X.c2.g=f2 at *;generalize raiseB X ⟨th,12,id_,to_,cat,dat,sb1,sc1,sb2,sc2⟩=rb at *;clear CC CW b3 b0 A0 P0 R0 X0 hs hX st;go_enter Tryz.func83,Tryz.ntmps83
 have WV:=hid HB.out;obtain⟨x0,x1⟩:=HA.out.two;obtain⟨s0,s1,s2,s3,s4,s5,s6,s7,s8,s9⟩:=HP.out.ten;obtain⟨y0,y1,y2,y3,y4,y5,y6⟩:=HX.out.seven;go_wp2_with fail
 have n7:Nv (.slice (some ⟨g,0,none⟩) lt.length ca):=⟨⟩;have BX:Hid (∀W,Below ((n1:World).alloc n2).heap.size ((n1:World).alloc n2) W→Blk W w.heap.size n4∧Blk W (w.heap.size+1) n3∧Blk W (w.heap.size+1+1) n5∧Blk W (w.heap.size+1+1+1) n2∧KSt W B n7 (.slice oa lo.length co) lt lo):=hid (fun W hW=>⟨HA.out.below hW,HP.out.below hW,HR.out.below hW,HX.out.below hW,HS.out.below hW⟩);have LW:Hid (∀W,Below ((n1:World).alloc n2).heap.size ((n1:World).alloc n2) W→Below w.heap.size w W):=hid (fun W hW=>then_ HB.out hW);have LB:Hid (∀W,Below ((n1:World).alloc n2).heap.size ((n1:World).alloc n2) W→Below B w W):=hid (fun W hW=>(then_ HB.out hW).mono hB);have V0:=hid (Below.refl ((n1:World).alloc n2).heap.size ((n1:World).alloc n2));clear x0 x1 s0 s1 s2 s3 s4 s5 s6 s7 s8 s9 y0 y1 y2 y3 y4 y5 y6 q0 q1 q2 q3 q4 q5 q6 HA HP HR HX HS WV;generalize ((n1:World).alloc n2)=V at *;refine(F1.out _ (LW.out _ V0.out)).mono ?_;rintro e w1 ⟨rfl,hb1⟩;have V1:=hid (then_ V0.out hb1);clear hb1;obtain⟨x0,x1⟩:=(BX.out _ V1.out).1.two;obtain⟨s0,s1,s2,s3,s4,s5,s6,s7,s8,s9⟩:=(BX.out _ V1.out).2.1.ten;obtain⟨r0,r1⟩:=(BX.out _ V1.out).2.2.1.two;have rf:=(BX.out _ V1.out).2.2.1.warm;obtain⟨y0,y1,y2,y3,y4,y5,y6⟩:=(BX.out _ V1.out).2.2.2.1.seven;cases f1 with
 |false=>
  simp only[Bool.false_and]at ER;go_wp2;have RB:=hid (BX.out _ V1.out).2.2.1;have KB:=hid (BX.out _ V1.out).2.2.2.2;refine bodyPost_ret (self_results _ _ (w.heap.size+1+1) 6 _ _ _ _ Tryz.results83 ((RB.out.setAt (i:=0) _).setAt (i:=1) _) rfl rfl rfl) rfl ⟨X,4,rfl,?_,?_,.inl ⟨rfl,ER.out,rfl⟩⟩
  ·rw[EX.out,set_same];exact(KB.out.set RB.out (.inl rfl) _).set (RB.out.setAt (i:=0) _) (.inl rfl) _
  ·exact((LB.out _ V1.out).setCell (by dsimp only;omega) _).setCell (by dsimp only;omega) _
 |true=>
 go_wp2_with fail
 refine(F2.out _ (LW.out _ V1.out)).mono ?_;rintro e w2 ⟨rfl,hb2⟩;have V2:=hid (then_ V1.out hb2);clear hb2;clear x0 x1 s0 s1 s2 s3 s4 s5 s6 s7 s8 s9 r0 r1 rf y0 y1 y2 y3 y4 y5 y6;obtain⟨x0,x1⟩:=(BX.out _ V2.out).1.two;obtain⟨s0,s1,s2,s3,s4,s5,s6,s7,s8,s9⟩:=(BX.out _ V2.out).2.1.ten;obtain⟨r0,r1⟩:=(BX.out _ V2.out).2.2.1.two;have rf:=(BX.out _ V2.out).2.2.1.warm;obtain⟨y0,y1,y2,y3,y4,y5,y6⟩:=(BX.out _ V2.out).2.2.2.1.seven;cases f2 with
 |false=>
  simp only[Bool.and_false]at ER;go_wp2;have RB:=hid (BX.out _ V2.out).2.2.1;have KB:=hid (BX.out _ V2.out).2.2.2.2;refine bodyPost_ret (self_results _ _ (w.heap.size+1+1) 6 _ _ _ _ Tryz.results83 ((RB.out.setAt (i:=0) _).setAt (i:=1) _) rfl rfl rfl) rfl ⟨X,4,rfl,?_,?_,.inl ⟨rfl,ER.out,rfl⟩⟩
  ·rw[EX.out,set_same];exact(KB.out.set RB.out (.inl rfl) _).set (RB.out.setAt (i:=0) _) (.inl rfl) _
  ·exact((LB.out _ V2.out).setCell (by dsimp only;omega) _).setCell (by dsimp only;omega) _
 |true=>
 simp only[Bool.and_true]at ER;have EG:Hid (∀args w,(callFunc 120 args).run Tryz.prog w= .ok (.enter 120 args) w):=hid (enters_of Tryz.func120 (by kernel_rfl) rfl);have D0:=hid (below_drew V2.out);clear x0 x1 s0 s1 s2 s3 s4 s5 s6 s7 s8 s9 r0 r1 rf y0 y1 y2 y3 y4 y5 y6;obtain⟨x0,x1⟩:=(BX.out _ D0.out).1.two;obtain⟨s0,s1,s2,s3,s4,s5,s6,s7,s8,s9⟩:=(BX.out _ D0.out).2.1.ten;obtain⟨r0,r1⟩:=(BX.out _ D0.out).2.2.1.two;have rf:=(BX.out _ D0.out).2.2.1.warm;obtain⟨y0,y1,y2,y3,y4,y5,y6⟩:=(BX.out _ D0.out).2.2.2.1.seven;have CP:Hid (Calls Tryz.prog 120 #[.agg n6] w2.drew fun e w'=>∃v,e= .returned v∧(∃d:CatL,v= .agg #[.int .i64 sb1,.slice d.a d.n d.k]∧sc1.same d∧d.new w2.drew.heap.size w'∧Below w2.drew.heap.size w2.drew w')):=hid ((CLB.out _ (LW.out _ D0.out)).mono fun _ _ ⟨d,e1,h1,h2,h3⟩=>⟨_,e1,d,rfl,h1,h2,h3⟩);go_wp2_with fail
 go_region_law(first
  |(refine step_call (by rfl) 120 _ _ (by rfl) EG.out _ (by rfl) _ CP.out ?_;rintro v w3 ⟨d,rfl,sd,nd,b3⟩;have V3:=hid (then_ D0.out b3);have SD:=hid sd;have ND:=hid (nd.low (Nat.le_trans hB (LW.out _ D0.out).size));obtain⟨m0,m1⟩:=(BX.out _ V3.out).1.two;have KB:=hid (BX.out _ V3.out).2.2.2.2;have CC:=(KB.out.cell7 ht).1;have c1:=CC.c1;have c2:=CC.c2;have GF:=hid (KB.out.setLab (b:=sb1) (d:=d) ht EX.out ND.out);have gf:=GF.out.2.1.choose_spec.warm;clear sd nd b3 CC))
 all_goals(
  have ng1:g≠w.heap.size:=by omega
  have ng2:g≠w.heap.size+1+1:=by omega
  have K4:Hid (KSt ((w3.setCell ⟨g,t*7+1,none⟩ (.int .i64 sb1)).setCell ⟨g,t*7+1+1,none⟩ (.slice d.a d.n d.k)) B n7 (.slice oa lo.length co) (lt.set t ⟨X.id,sb1,d,X.b2,X.c2,X.own,X.made⟩) lo):=hid GF.out.1;have A4:=hid (((BX.out _ V3.out).1.other ng1 (i:=t*7+1) (.int .i64 sb1)).other ng1 (i:=t*7+1+1) (.slice d.a d.n d.k));have R4:=hid (((BX.out _ V3.out).2.2.1.other ng2 (i:=t*7+1) (.int .i64 sb1)).other ng2 (i:=t*7+1+1) (.slice d.a d.n d.k));have L4:Hid (Below B w ((w3.setCell ⟨g,t*7+1,none⟩ (.int .i64 sb1)).setCell ⟨g,t*7+1+1,none⟩ (.slice d.a d.n d.k))):=hid (((LB.out _ V3.out).setCell (by dsimp only;exact GF.out.2.2) _).setCell (by dsimp only;exact GF.out.2.2) _);clear GF gf c1 c2 KB m0 m1 x0 x1 s0 s1 s2 s3 s4 s5 s6 s7 s8 s9 r0 r1 rf y0 y1 y2 y3 y4 y5 y6 ND;generalize (w3.setCell ⟨g,t*7+1,none⟩ (.int .i64 sb1)).setCell ⟨g,t*7+1+1,none⟩ (.slice d.a d.n d.k)=W4 at *;obtain⟨x0,x1⟩:=A4.out.two;obtain⟨r0,r1⟩:=R4.out.two;have rf:=R4.out.warm;go_wp2;refine bodyPost_ret (self_results _ _ (w.heap.size+1+1) 6 _ _ _ _ Tryz.results83 ((R4.out.setAt (i:=0) _).setAt (i:=1) _) rfl rfl rfl) rfl ⟨⟨X.id,sb1,d,X.b2,X.c2,X.own,X.made⟩,0,rfl,(K4.out.set R4.out (.inl rfl) _).set (R4.out.setAt (i:=0) _) (.inl rfl) _,(L4.out.setCell (by dsimp only;omega) _).setCell (by dsimp only;omega) _,.inr ⟨rfl,ER.out,d,SD.out,rfl⟩⟩)
end Go.Proofs.YtallmkehpfaaeaaGreatDoor
