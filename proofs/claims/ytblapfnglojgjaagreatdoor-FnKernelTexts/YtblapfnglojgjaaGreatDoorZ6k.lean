import Derived.Test.YtblapfnglojgjaaGreatDoorZ5k
set_option maxRecDepth 100000
set_option maxHeartbeats 16000000
namespace Go.Proofs.YtblapfnglojgjaaGreatDoor
open Go Go.RowKit Go.Deep Go.Maps Go.BigFrame Go.Shelf Go.Proofs.Tryz
variable {w:World}{B n c:Nat}{a:Option Addr}
theorem QD(tmps:Array Value)(W:World)(P:Nat)(x0 x1 x2 x3 x4 x5 x6 x7 x8 x9:Value)(h:Ai W P (.cells #[x0,x1,x2,x3,x4,x5,x6,x7,x8,x9] 51))(h2:tmps[2]? =some (.pointer P)):
 (results Tryz.f106 tmps).run prog W= .ok (.agg #[x0,x1,x2,x3,x4,x5,x6,x7,x8,x9]) W:=by
 obtain⟨z0,z1,z2,z3,z4,z5,z6,z7,z8,z9⟩:=h.jE;simp[results,Tryz.results106,go_sem,h2,z0,z1,z2,z3,z4,z5,z6,z7,z8,z9]
theorem QC{f:Nat->ByteArray}(h:w.ownsRow B 9 1 (.slice a n c) n ((List.range n).map (fun i=>Value.string (f i))))(hn:n<=1048576)(hz:∀i,i<n->(f i).size<=maxLen):AX.new B w ⟨a,n,c,f⟩:=by
 have hi:JF w a n f:=fun h0=>by
  obtain⟨b,off,e,hlt,hcc⟩:=Bh.own h h0;exact⟨b,off,e,hlt,fun i hi=>hcc i _ (by simp[hi])⟩
 exact⟨⟨by unfold maxLen;simp only;omega,hi,hz⟩,fun h0=>UD h h0⟩
theorem QW{f:Nat->Int}(h:w.ownsRow B 2 1 (.slice a n c) n (((List.range n).map f).map (Value.int .i64)))(hn:n<=1048576):AU.new B w ⟨a,n,c,f⟩:=by
 have el:((List.range n).map f).length=n:=by simp
 have ho':AQ w B (.slice a ((List.range n).map f).length c) ((List.range n).map f):=by unfold AQ;rw[el];exact h
 have hi:Ce w a n f:=fun h0=>by
  obtain⟨b,off,e,hlt,hcc⟩:=(AQ.lies ho').ints (by rw[el];exact h0);refine⟨b,off,e,hlt,fun i hi=>?_⟩;have:=hcc i (by rw[el];exact hi);rw[this];simp[Bl,hi]
 exact⟨⟨by unfold maxLen;simp only;omega,hi⟩,fun h0=>by have:=Gu h h0;simpa using this⟩
theorem ML(t:Ae)(w:World)(ht:t.at w)(hs:t.small):
 Calls prog 106 #[t.val] w fun e w'=>∃u:Ae,e= .returned u.val/\t.same u/\u.new w w'/\(u.jA.n<=u.jA.k/\u.jA.k<=maxLen)/\Below w w w':=by
 have b0:Below w w ((w.alloc t.blk).alloc Ko):=(CY w _).alloc (by simp) _;have A0:=(Ai.new w t.blk).alloc Ko;have R0:Ai ((w.alloc t.blk).alloc Ko) (w.heap.size+1) Ko:=by
  have:=Ai.new (w.alloc t.blk) Ko;simpa using this
 have HT:=hid ht;obtain⟨m1,m2,m3,m4,m5⟩:=hs;have ne1:¬w.heap.size+1=w.heap.size:=by omega
 have ne2:¬w.heap.size=w.heap.size+1:=by omega
 have PA:Hid (∀W,Below w w W->Calls prog 110 #[.agg #[t.b1,t.c1.val]] W fun e w'=>∃d:AH,e= .returned (.agg #[t.b1,d])/\t.c1.same d/\d.new W w'/\Below W W w'):=hid (fun W hW=>Ct t.b1 t.c1 W (HT.out.below hW).1 m1);have PB:Hid (∀W,Below w w W->Calls prog 110 #[.agg #[t.b2,t.c2.val]] W fun e w'=>∃d:AH,e= .returned (.agg #[t.b2,d])/\t.c2.same d/\d.new W w'/\Below W W w'):=hid (fun W hW=>Ct t.b2 t.c2 W (HT.out.below hW).2.2.2.1 m5);have LS:Hid (∀W,Below w w W->Bh W t.jA.a t.jA.n ((List.range t.jA.n).map (fun i=>Value.string (t.jA.f i)))):=hid (fun W hW=>QJ (HT.out.below hW).2.1.2.1);have LI:Hid (∀W,Below w w W->Bh W t.own.a t.own.n (((List.range t.own.n).map t.own.h).map (Value.int .i64))):=hid (fun W hW=>by
  have L0:=(HT.out.below hW).2.2.1.2.intL;have el:((List.range t.own.n).map t.own.h).length=t.own.n:=by simp
  unfold D9 at L0;rw[el]at L0;exact L0)
 have ZI:=hid (HT.out.2.1.2.2);unfold Ae.blk Ko at b0 A0 R0;unfold Ae.val;unfold AH.val AU.val AX.val at *;clear ht;obtain⟨x0,x1,x2,x3,x4,x5,x6,x7,x8,x9⟩:=A0.jE;have C1:=hid (PA.out _ b0);go_enter func106,ntmps106
 go_wp2_with fail
 refine C1.out.mono ?_;rintro e w1 ⟨d1,rfl,s1,n1,h1⟩;have S1:=hid s1;have A1:=A0.below h1;have R1:=R0.below h1;have B1:=Ac b0 h1;have L1:=b0.size;have N1:=hid (n1.low L1);have af:=A1.jC;have A1':Ai ((w1.setCell ⟨w,3,none⟩ (.int .i64 t.b1)).setCell ⟨w,4,none⟩ (.slice d1.a d1.n d1.k)) w (.cells #[t.id,t.kind,t.up,t.b1,d1,.string t.data,t.jA,t.own,t.b2,t.c2] 51):=(A1.jB (i:=3) (.int .i64 t.b1)).jB (i:=4) (.slice d1.a d1.n d1.k);have n7:No (.cells #[.int .i64 0,.int .i64 0,.int .i64 0,.int .i64 0,.slice none 0 0,.string (ByteArray.mk #[]),.slice none 0 0,.slice none 0 0,.int .i64 0,.slice none 0 0] 51):=⟨⟩;have n3:No n7:=⟨⟩;have R1':Ai ((w1.setCell ⟨w,3,none⟩ (.int .i64 t.b1)).setCell ⟨w,4,none⟩ (.slice d1.a d1.n d1.k)) (w.heap.size+1) n3:=(R1.other (by omega) _).other (by omega) _;have B1':Below w w ((w1.setCell ⟨w,3,none⟩ (.int .i64 t.b1)).setCell ⟨w,4,none⟩ (.slice d1.a d1.n d1.k)):=(B1.setCell nr _).setCell nr _;have N1':Hid (d1.new w ((w1.setCell ⟨w,3,none⟩ (.int .i64 t.b1)).setCell ⟨w,4,none⟩ (.slice d1.a d1.n d1.k))):=hid (N1.out.of (by simp) (fun g hg hn'=>by
  have q1:=N1.out.ne A1 (by decide) g hg hn';iterate 2 rw[blk_setCell_other _ _ _ _ (by dsimp only;omega)]))
 obtain⟨y0,y1,y2,y3,y4,y5,y6,y7,y8,y9⟩:=A1.jE;obtain⟨z0,z1,z2,z3,z4,z5,z6,z7,z8,z9⟩:=A1'.jE;have C2:=hid (PB.out _ B1');clear x0 x1 x2 x3 x4 x5 x6 x7 x8 x9 C1 s1 n1 h1 N1 A0 R0 b0 R1 B1;go_wp2_with fail
 refine C2.out.mono ?_;rintro e w2 ⟨d2,rfl,s2,n2,h2⟩;have S2:=hid s2;have A2:=A1'.below h2;have R2:=R1'.below h2;have B2:=Ac B1' h2;have N1:=hid (N1'.out.below h2);have N2:=hid (n2.low B1'.size);have af2:=A2.jC;have n4:No (.cells #[t.id,t.kind,t.up,t.b1,d1,.string t.data,t.jA,t.own,t.b2,d2] 51):=⟨⟩;have A2':Ai ((w2.setCell ⟨w,8,none⟩ (.int .i64 t.b2)).setCell ⟨w,9,none⟩ (.slice d2.a d2.n d2.k)) w n4:=(A2.jB (i:=8) (.int .i64 t.b2)).jB (i:=9) (.slice d2.a d2.n d2.k);have R2':Ai ((w2.setCell ⟨w,8,none⟩ (.int .i64 t.b2)).setCell ⟨w,9,none⟩ (.slice d2.a d2.n d2.k)) (w.heap.size+1) n3:=(R2.other (by omega) _).other (by omega) _;have B2':Below w w ((w2.setCell ⟨w,8,none⟩ (.int .i64 t.b2)).setCell ⟨w,9,none⟩ (.slice d2.a d2.n d2.k)):=(B2.setCell nr _).setCell nr _;have M1:Hid (d1.new w ((w2.setCell ⟨w,8,none⟩ (.int .i64 t.b2)).setCell ⟨w,9,none⟩ (.slice d2.a d2.n d2.k))):=hid (N1.out.of (by simp) (fun g hg hn'=>by
  have q1:=N1.out.ne A2 (by decide) g hg hn';iterate 2 rw[blk_setCell_other _ _ _ _ (by dsimp only;omega)]))
 have M2:Hid (d2.new w ((w2.setCell ⟨w,8,none⟩ (.int .i64 t.b2)).setCell ⟨w,9,none⟩ (.slice d2.a d2.n d2.k))):=hid (N2.out.of (by simp) (fun g hg hn'=>by
  have q1:=N2.out.ne A2 (by decide) g hg hn';iterate 2 rw[blk_setCell_other _ _ _ _ (by dsimp only;omega)]))
 clear y0 y1 y2 y3 y4 y5 y6 y7 y8 y9 z0 z1 z2 z3 z4 z5 z6 z7 z8 z9 C2 s2 n2 h2 N1 N2 N1' A1 A1' R1' B1' R2 B2 af L1;obtain⟨y0,y1,y2,y3,y4,y5,y6,y7,y8,y9⟩:=A2.jE;have n5:Nw (((w2.setCell ⟨w,8,none⟩ (.int .i64 t.b2)).setCell ⟨w,9,none⟩ (.slice d2.a d2.n d2.k)).alloc (.cells #[] 9)):=⟨⟩;have b3:Below ((w2.setCell ⟨w,8,none⟩ (.int .i64 t.b2)).setCell ⟨w,9,none⟩ (.slice d2.a d2.n d2.k)).heap.size ((w2.setCell ⟨w,8,none⟩ (.int .i64 t.b2)).setCell ⟨w,9,none⟩ (.slice d2.a d2.n d2.k)) n5:=CY _ _;have e2:((w2.setCell ⟨w,8,none⟩ (.int .i64 t.b2)).setCell ⟨w,9,none⟩ (.slice d2.a d2.n d2.k)).heap.size=w2.heap.size:=by simp
 have n6:Nv (.slice (w2) 0 0):=⟨⟩;have OM:Hid ((n5:World).ownsRow w 9 1 n6 0 []):=hid (by
  have:=World.ownsRow_made (e:=9) (size:=1) ((w2.setCell ⟨w,8,none⟩ (.int .i64 t.b2)).setCell ⟨w,9,none⟩ (.slice d2.a d2.n d2.k)) #[] 0 B2'.size (Nat.zero_le _) rfl;rw[e2]at this;exact this)
 have LM:=hid (LS.out _ (Ac B2' b3));have SZ:=(Ac B2' b3).size;have P2:w.heap.size+1<w2.heap.size:=by have:=R2'.lt;rw[e2]at this;exact this
 obtain⟨z0,z1,z2,z3,z4,z5,z6,z7,z8,z9⟩:=(A2'.below b3).jE;have F3:Hid (∀(a3:Option Addr) (c3:Nat) (w3:World),w3.ownsRow w 9 1 (.slice a3 t.jA.n c3) t.jA.n ((List.range t.jA.n).map (fun i=>Value.string (t.jA.f i)))->(n5:World).grownBy w3 (some w2)->Ai w3 w n4/\Ai w3 (w.heap.size+1) n3/\Below w w w3/\d1.new w w3/\d2.new w w3/\AX.new w w3 ⟨a3,t.jA.n,c3,t.jA.f⟩):=hid (fun a3 c3 w3 o3 g3=>by
  have rn:∀c:AH,c.new w ((w2.setCell ⟨w,8,none⟩ (.int .i64 t.b2)).setCell ⟨w,9,none⟩ (.slice d2.a d2.n d2.k))->c.new w w3:=fun c hc=>(hc.below b3).of g3.size (fun b hb hn=>g3.block b (by obtain⟨b',_,_,e',_,_,hr⟩:=(hc.below b3).2 hn;rw[hb]at e';cases e';exact hr.lt) (fun e=>by
   obtain⟨b',_,_,e',_,_,hr⟩:=hc.2 hn;rw[hb]at e';cases e';have h1:=hr.lt;have h2:=Option.some.inj e;rw[e2]at h1;omega))
  refine⟨(A2'.below b3).grown g3 (by simp;omega),(R2'.below b3).grown g3 (by simp;omega),(Ac B2' b3).trans (below_grown g3 SZ (fun j hj=>by cases hj;omega)),rn d1 M1,rn d2 M2,QC o3 m3.1 ZI⟩)
 have AR3:Hid (∀(a3:Option Addr) (c3:Nat) (w3:World),Ai w3 w n4->Ai w3 (w.heap.size+1) n3->Below w w w3->d1.new w w3->d2.new w w3->AX.new w w3 ⟨a3,t.jA.n,c3,t.jA.f⟩->
  Ai (w3.setCell ⟨w,6,none⟩ (.slice a3 t.jA.n c3)) w (.cells #[t.id,t.kind,t.up,t.b1,d1,.string t.data,.slice a3 t.jA.n c3,t.own,t.b2,d2] 51)/\Ai (w3.setCell ⟨w,6,none⟩ (.slice a3 t.jA.n c3)) (w.heap.size+1) n3/\Below w w (w3.setCell ⟨w,6,none⟩ (.slice a3 t.jA.n c3))/\d1.new w (w3.setCell ⟨w,6,none⟩ (.slice a3 t.jA.n c3))/\d2.new w (w3.setCell ⟨w,6,none⟩ (.slice a3 t.jA.n c3))/\AX.new w (w3.setCell ⟨w,6,none⟩ (.slice a3 t.jA.n c3)) ⟨a3,t.jA.n,c3,t.jA.f⟩):=hid (fun a3 c3 w3 A R B k1 k2 k4=>
  ⟨A.jB (i:=6) _,R.other (by omega) _,B.setCell nr _,k1.of (by simp) (fun g hg hn'=>by have q1:=k1.ne A (by decide) g hg hn';rw[blk_setCell_other _ _ _ _ (by dsimp only;omega)]),k2.of (by simp) (fun g hg hn'=>by have q1:=k2.ne A (by decide) g hg hn';rw[blk_setCell_other _ _ _ _ (by dsimp only;omega)]),k4.of (by simp) (fun g hg hn'=>by have q1:=k4.ne A (by decide) g hg hn';rw[blk_setCell_other _ _ _ _ (by dsimp only;omega)])⟩)
 have O3:Hid (∀(a3:Option Addr) (c3:Nat) (w3:World),Below w w (w3.setCell ⟨w,6,none⟩ (.slice a3 t.jA.n c3))->((w3.setCell ⟨w,6,none⟩ (.slice a3 t.jA.n c3)).alloc (.cells #[] 2)).ownsRow w 2 1 (.slice (w3) 0 0) 0 []):=hid (fun a3 c3 w3 B=>by
  have:=World.ownsRow_made (e:=2) (size:=1) (w3.setCell ⟨w,6,none⟩ (.slice a3 t.jA.n c3)) #[] 0 B.size (Nat.zero_le _) rfl;have e3:(w3.setCell ⟨w,6,none⟩ (.slice a3 t.jA.n c3)).heap.size=w3.heap.size:=by simp
  rw[e3]at this;exact this)
 have F4:Hid (∀(a3:Option Addr) (c3:Nat) (w3:World) (a4:Option Addr) (c4:Nat) (w4:World),Ai (w3.setCell ⟨w,6,none⟩ (.slice a3 t.jA.n c3)) w (.cells #[t.id,t.kind,t.up,t.b1,d1,.string t.data,.slice a3 t.jA.n c3,t.own,t.b2,d2] 51)->Ai (w3.setCell ⟨w,6,none⟩ (.slice a3 t.jA.n c3)) (w.heap.size+1) n3->Below w w (w3.setCell ⟨w,6,none⟩ (.slice a3 t.jA.n c3))->d1.new w (w3.setCell ⟨w,6,none⟩ (.slice a3 t.jA.n c3))->d2.new w (w3.setCell ⟨w,6,none⟩ (.slice a3 t.jA.n c3))->AX.new w (w3.setCell ⟨w,6,none⟩ (.slice a3 t.jA.n c3)) ⟨a3,t.jA.n,c3,t.jA.f⟩->w4.ownsRow w 2 1 (.slice a4 t.own.n c4) t.own.n (((List.range t.own.n).map t.own.h).map (Value.int .i64))->((w3.setCell ⟨w,6,none⟩ (.slice a3 t.jA.n c3)).alloc (.cells #[] 2)).grownBy w4 (some w3)->
  Ai w4 w (.cells #[t.id,t.kind,t.up,t.b1,d1,.string t.data,.slice a3 t.jA.n c3,t.own,t.b2,d2] 51)/\Ai w4 (w.heap.size+1) n3/\Below w w w4/\d1.new w w4/\d2.new w w4/\AX.new w w4 ⟨a3,t.jA.n,c3,t.jA.f⟩/\AU.new w w4 ⟨a4,t.own.n,c4,t.own.h⟩):=hid (fun a3 c3 w3 a4 c4 w4 A R B k1 k2 k4 o4 g4=>by
  have e3:(w3.setCell ⟨w,6,none⟩ (.slice a3 t.jA.n c3)).heap.size=w3.heap.size:=by simp
  have b4:Below (w3.setCell ⟨w,6,none⟩ (.slice a3 t.jA.n c3)).heap.size (w3.setCell ⟨w,6,none⟩ (.slice a3 t.jA.n c3)) ((w3.setCell ⟨w,6,none⟩ (.slice a3 t.jA.n c3)).alloc (.cells #[] 2)):=CY _ _;have l1:=A.lt;have l2:=R.lt;rw[e3]at l1 l2;have rn:∀c:AH,c.new w (w3.setCell ⟨w,6,none⟩ (.slice a3 t.jA.n c3))->c.new w w4:=fun c hc=>(hc.below b4).of g4.size (fun b hb hn=>g4.block b (by obtain⟨b',_,_,e',_,_,hr⟩:=(hc.below b4).2 hn;rw[hb]at e';cases e';exact hr.lt) (fun e=>by
   obtain⟨b',_,_,e',_,_,hr⟩:=hc.2 hn;rw[hb]at e';cases e';have h1:=hr.lt;have h2:=Option.some.inj e;rw[e3]at h1;omega))
  refine⟨(A.below b4).grown g4 (by simp;omega),(R.below b4).grown g4 (by simp;omega),(Ac B b4).trans (below_grown g4 (Ac B b4).size (fun j hj=>by cases hj;omega)),rn d1 k1,rn d2 k2,(k4.below b4).of g4.size (fun b hb hn=>g4.block b (by obtain⟨b',_,_,e',_,_,hr⟩:=(k4.below b4).2 hn;rw[hb]at e';cases e';exact hr.lt) (fun e=>by
   obtain⟨b',_,_,e',_,_,hr⟩:=k4.2 hn;rw[hb]at e';cases e';have h1:=hr.lt;have h2:=Option.some.inj e;rw[e3]at h1;omega)),QW o4 m4⟩)
 have mk1:True:=trivial;have bb4:Hid (∀W:World,Below W W (W.alloc (.cells #[] 2))):=hid (fun W=>CY _ _);have ln1:t.jA.n<=1048576:=m3.1;clear A2' R2' B2' M1 M2 b3 A2;go_wp2_with(first
  |(have mq:=mk1;clear mk1;refine Ix underlying49 Tryz.info9 rfl (by omega) _ rfl _ _ rfl w n6 0 [] rfl OM t.jA.a t.jA.n t.jA.k ((List.range t.jA.n).map (fun i=>Value.string (t.jA.f i))) rfl (by simp) LM (fun u hu=>by obtain⟨y,_,rfl⟩:=List.mem_map.1 hu;rfl) (by omega) (by omega) SZ ?_;intro a3 c3 w3 o3 g3;rw[Nat.zero_add,List.nil_append]at o3;rw[Nat.zero_add];have CAP:=hid (GH o3);obtain⟨A3,R3,B3,K1,K2,K4⟩:=F3.out a3 c3 w3 o3 g3;obtain⟨A3',R3',B3',K1',K2',K4'⟩:=AR3.out a3 c3 w3 A3 R3 B3 K1 K2 K4;have HA3:=hid A3';have HR3:=hid R3';have HB3:=hid B3';have HK1:=hid K1';have HK2:=hid K2';have HK4:=hid K4';have OM2:=hid (O3.out a3 c3 w3 B3');have LM2:=hid (LI.out _ (Ac B3' (bb4 _)));have SZ2:=hid (Ac B3' (bb4 _)).size;obtain⟨p0,p1,p2,p3,p4,p5,p6,p7,p8,p9⟩:=A3.jE;have pf:=A3.jC;obtain⟨q0,q1,q2,q3,q4,q5,q6,q7,q8,q9⟩:=(A3'.below (bb4 _)).jE;clear o3 g3 A3 R3 B3 K1 K2 K4 A3' R3' B3' K1' K2' K4' F3 AR3 O3 OM LM)
  |(refine Ix underlying45 Tryz.info2 rfl (by omega) _ rfl _ _ rfl w (.slice (some ⟨w3,0,none⟩) 0 0) 0 [] rfl OM2 t.own.a t.own.n t.own.k (((List.range t.own.n).map t.own.h).map (Value.int .i64)) rfl (by simp) LM2 (fun u hu=>by obtain⟨y,_,rfl⟩:=List.mem_map.1 hu;rfl) (by omega) (by omega) SZ2 ?_;intro a4 c4 w4 o4 g4;rw[Nat.zero_add,List.nil_append]at o4;rw[Nat.zero_add];obtain⟨A4,R4,B4,K1,K2,K4,K3⟩:=F4.out a3 c3 w3 a4 c4 w4 HA3 HR3 HB3 HK1 HK2 HK4 o4 g4;have HA4:=hid A4;have HR4:=hid R4;have HB4:=hid B4;have J1:=hid K1;have J2:=hid K2;have J3:=hid K3;have J4:=hid K4;obtain⟨u0,u1,u2,u3,u4,u5,u6,u7,u8,u9⟩:=A4.jE;have uf:=A4.jC;have A4':Ai (w4.setCell ⟨w,7,none⟩ (.slice a4 t.own.n c4)) w (.cells #[t.id,t.kind,t.up,t.b1,d1,.string t.data,.slice a3 t.jA.n c3,.slice a4 t.own.n c4,t.b2,d2] 51):=A4.jB (i:=7) _;have R4':Ai (w4.setCell ⟨w,7,none⟩ (.slice a4 t.own.n c4)) (w.heap.size+1) n7:=R4.other (by omega) _;have HR4':=hid R4';obtain⟨v0,v1,v2,v3,v4,v5,v6,v7,v8,v9⟩:=A4'.jE;obtain⟨r0,r1,r2,r3,r4,r5,r6,r7,r8,r9⟩:=R4'.jE;have rf:=R4'.jC;clear o4 g4 A4 R4 B4 K1 K2 K3 K4 A4' R4'))
 refine bodyPost_ret (QD _ _ (w.heap.size+1) (.int .i64 t.id) (.int .i64 t.kind) (.int .i64 t.up) (.int .i64 t.b1) (.slice d1.a d1.n d1.k) (.string t.data) (.slice a3 t.jA.n c3) (.slice a4 t.own.n c4) (.int .i64 t.b2) (.slice d2.a d2.n d2.k) (Ai.all10 HR4' _ _ _ _ _ _ _ _ _ _) rfl) rfl ⟨⟨t.id,t.kind,t.up,t.b1,d1,t.data,⟨a3,t.jA.n,c3,t.jA.f⟩,⟨a4,t.own.n,c4,t.own.h⟩,t.b2,d2⟩,rfl,⟨rfl,rfl,rfl,rfl,S1,rfl,⟨rfl,rfl⟩,⟨rfl,rfl⟩,rfl,S2⟩,⟨?_,?_,?_,?_⟩,CAP,?_⟩
 ·refine J1.out.of (by simp) (fun g hg hn'=>?_);have q1:=J1.out.ne HA4 (by decide) g hg hn';have q2:=J1.out.ne HR4 (by decide) g hg hn';iterate 11 rw[blk_setCell_other _ _ _ _ (by dsimp only;omega)]
 ·refine J4.out.of (by simp) (fun g hg hn'=>?_);have q1:=J4.out.ne HA4 (by decide) g hg hn';have q2:=J4.out.ne HR4 (by decide) g hg hn';iterate 11 rw[blk_setCell_other _ _ _ _ (by dsimp only;omega)]
 ·refine J3.out.of (by simp) (fun g hg hn'=>?_);have q1:=J3.out.ne HA4 (by decide) g hg hn';have q2:=J3.out.ne HR4 (by decide) g hg hn';iterate 11 rw[blk_setCell_other _ _ _ _ (by dsimp only;omega)]
 ·refine J2.out.of (by simp) (fun g hg hn'=>?_);have q1:=J2.out.ne HA4 (by decide) g hg hn';have q2:=J2.out.ne HR4 (by decide) g hg hn';iterate 11 rw[blk_setCell_other _ _ _ _ (by dsimp only;omega)]
 ·iterate 11 refine Below.setCell ?_ (by dsimp only;omega) _
  exact HB4.out
variable {w w':World}{P t B B' i:Nat}{c:AU}{v vt vo:Value}{lt:List Af}{lo:List Ae}
structure CN(w w':World):Prop where
 size:w.heap.size<=w'.heap.size
 block:∀(k:Nat) (cs:Array Value) (t:TypeId),w.heap[k]? =some (Obj.cells cs t (0,0))->t≠47->t≠51->w'.heap[k]? =w.heap[k]?
theorem CN.blk{cs:Array Value}(h:CN w w')(hb:Ai w P (.cells cs t))(h1:t≠47)(h2:t≠51):Ai w' P (.cells cs t):=(h.block P cs t hb h1 h2).trans hb
theorem CN.of_below(h:Below w w w'):CN w w':=⟨h.size,fun k _ _ hk _ _=>h.block k (Array.getElem?_eq_some_iff.1 hk).1⟩
theorem IP{b ty m:Nat}{F:Nat->Value}(hr:w.rowIs b ty m F):∃cs,w.heap[b]? =some (.cells cs ty (0,0)):=by
 obtain⟨c,h1,_⟩:=hr;exact⟨c,h1⟩
theorem AU.new.over(h:c.new B w)(hs:w.heap.size<=w'.heap.size)(hb:∀b m F,w.rowIs b 2 m F->w'.heap[b]? =w.heap[b]?):c.new B w':=h.of hs (fun b e hn=>by
 obtain⟨b',m,F,e',_,_,hr⟩:=h.2 hn;rw[e]at e';cases e';exact hb b m F hr)
theorem AX.new.over{c:AX}(h:c.new B w)(hs:w.heap.size<=w'.heap.size)(hb:∀b m F,w.rowIs b 9 m F->w'.heap[b]? =w.heap[b]?):c.new B w':=h.of hs (fun b e hn=>by
 obtain⟨b',m,F,e',_,_,hr⟩:=h.2 hn;rw[e]at e';cases e';exact hb b m F hr)
structure Eu(w w':World):Prop where
 size:w.heap.size<=w'.heap.size
 block:∀(k:Nat) (cs:Array Value) (t:TypeId),w.heap[k]? =some (Obj.cells cs t (0,0))->t=96∨t=2∨t=9->w'.heap[k]? =w.heap[k]?
theorem CN.l(h:CN w w'):Eu w w':=⟨h.size,fun k cs t hk ht=>h.block k cs t hk (by rcases ht with rfl|rfl|rfl<;>decide) (by rcases ht with rfl|rfl|rfl<;>decide)⟩
theorem AH.new.keeps{c:AH}(h:c.new B w)(k:Eu w w'):c.new B w':=h.over k.size (fun b m F hr=>by obtain⟨cs,hh⟩:=IP hr;exact k.block b cs _ hh (.inl rfl))
theorem AU.new.keeps(h:c.new B w)(k:Eu w w'):c.new B w':=h.over k.size (fun b m F hr=>by obtain⟨cs,hh⟩:=IP hr;exact k.block b cs _ hh (.inr (.inl rfl)))
theorem AX.new.keeps{c:AX}(h:c.new B w)(k:Eu w w'):c.new B w':=h.over k.size (fun b m F hr=>by obtain⟨cs,hh⟩:=IP hr;exact k.block b cs _ hh (.inr (.inr rfl)))
theorem Af.new.keeps{t:Af}(h:t.new B w)(k:Eu w w'):t.new B w':=⟨h.1.keeps k,h.2.1.keeps k,h.2.2.keeps k⟩
theorem Ae.new.keeps{t:Ae}(h:t.new B w)(k:Eu w w'):t.new B w':=⟨h.1.keeps k,h.2.1.keeps k,h.2.2.1.keeps k,h.2.2.2.keeps k⟩
theorem Af.new.low{t:Af}(h:t.new B w)(hB:B'<=B):t.new B' w:=⟨h.1.low hB,h.2.1.low hB,h.2.2.low hB⟩
theorem Ae.new.low{t:Ae}(h:t.new B w)(hB:B'<=B):t.new B' w:=⟨h.1.low hB,h.2.1.low hB,h.2.2.1.low hB,h.2.2.2.low hB⟩
theorem Aw{cs:Array Value}(hb:Ai w P (.cells cs t))(ht:t≠96/\t≠2/\t≠9)(v:Value):Eu w (w.setCell ⟨P,i,none⟩ v):=by
 refine⟨by rw[nblk_setCell];exact Nat.le_refl _,fun k ck tk hk hh=>blk_setCell_other _ _ _ _ (fun e=>?_)⟩;dsimp only at e;unfold Ai at hb;rw[e]at hk;rw[hk]at hb;simp only[Option.some.injEq,Obj.cells.injEq,and_true]at hb;rcases hh with h|h|h
 ·exact ht.1 (hb.2.symm.trans h)
 ·exact ht.2.1 (hb.2.symm.trans h)
 ·exact ht.2.2 (hb.2.symm.trans h)
theorem CV.set{l:List Af}{cs:Array Value}(h:CV w B v l)(hb:Ai w P (.cells cs t))(ht:t≠47)(u:Value):CV (w.setCell ⟨P,i,none⟩ u) B v l:=by
 refine⟨h.1,?_⟩;rcases h.2 with hn|⟨g,cap,cur,hv,hbg,hg,rest⟩
 ·exact .inl hn
 ·refine .inr ⟨g,cap,cur,hv,hbg,?_,rest⟩;have hh:Ai w g (.cells cur 47):=hg;refine hh.other (fun e=>?_) u;unfold Ai at hb hh;rw[e,hh]at hb;simp only[Option.some.injEq,Obj.cells.injEq,and_true]at hb;exact ht hb.2.symm
theorem Ba.set{l:List Ae}{cs:Array Value}(h:Ba w B v l)(hb:Ai w P (.cells cs t))(ht:t≠51)(u:Value):Ba (w.setCell ⟨P,i,none⟩ u) B v l:=by
 refine⟨h.1,?_⟩;rcases h.2 with hn|⟨g,cap,cur,hv,hbg,hg,rest⟩
 ·exact .inl hn
 ·refine .inr ⟨g,cap,cur,hv,hbg,?_,rest⟩;have hh:Ai w g (.cells cur 51):=hg;refine hh.other (fun e=>?_) u;unfold Ai at hb hh;rw[e,hh]at hb;simp only[Option.some.injEq,Obj.cells.injEq,and_true]at hb;exact ht hb.2.symm
structure Cf(w:World)(B:Nat)(vt vo:Value)(lt:List Af)(lo:List Ae):Prop where
 t:CV w B vt lt
 o:Ba w B vo lo
 tn:∀x∈lt,x.new B w
 on:∀x∈lo,x.new B w
 tc:∀x∈lt,x.own.n<=x.own.k/\x.own.k<=maxLen
 oc:∀x∈lo,x.jA.n<=x.jA.k/\x.jA.k<=maxLen
theorem Cf.below(h:Cf w B vt vo lt lo)(hb:Below w w w'):Cf w' B vt vo lt lo:=
 ⟨h.t.below hb,h.o.below hb,fun x hx=>(h.tn x hx).keeps (CN.of_below hb).l,fun x hx=>(h.on x hx).keeps (CN.of_below hb).l,h.tc,h.oc⟩
theorem Cf.base(h:Cf w B vt vo lt lo)(hB:B'<=B):Cf w B' vt vo lt lo:=⟨h.t.base hB,h.o.base hB,fun x hx=>(h.tn x hx).low hB,fun x hx=>(h.on x hx).low hB,h.tc,h.oc⟩
theorem Cf.set{cs:Array Value}(h:Cf w B vt vo lt lo)(hb:Ai w P (.cells cs t))(ht:t=27∨t=77)(u:Value):Cf (w.setCell ⟨P,i,none⟩ u) B vt vo lt lo:=by
 have k:=Aw (i:=i) hb (by rcases ht with rfl|rfl<;>decide) u;exact⟨h.t.set hb (by rcases ht with rfl|rfl<;>decide) u,h.o.set hb (by rcases ht with rfl|rfl<;>decide) u,fun x hx=>(h.tn x hx).keeps k,fun x hx=>(h.on x hx).keeps k,h.tc,h.oc⟩
theorem Af.new.at{t:Af}(h:t.new B w):t.at w:=⟨h.1.1,h.2.1.1,h.2.2.1⟩
def Dm(ta:Option Addr)(ca:Nat)(oa:Option Addr)(co:Nat)(lt:List Af)(lo:List Ae):AJ:=⟨ta,lt.length,ca,Bm lt,oa,lo.length,co,Aa lo⟩
theorem Cf.at{ca co:Nat}{ta oa:Option Addr}(h:Cf w B (.slice ta lt.length ca) (.slice oa lo.length co) lt lo)(h1:lt.length<=1048576)(h2:lo.length<=1048576)(h3:∀x∈lo,x.data.size<=maxLen):(Dm ta ca oa co lt lo).at w:=
 ⟨Nat.le_trans h1 (by unfold maxLen;omega),Nat.le_trans h2 (by unfold maxLen;omega),h.t.lies (fun x hx=>(h.tn x hx).at),h.o.lies (fun x hx=>⟨(h.on x hx).1.1,(h.on x hx).2.1.1,(h.on x hx).2.2.1.1,(h.on x hx).2.2.2.1,h3 x hx⟩)⟩
theorem Cf.addT{vt':Value}{x:Af}(h:Cf w B vt vo lt lo)(ho:CV w' B vt' (lt++[x]))(hg:w.grownBy w' vt.ownBlock)(hx:x.new B w)(hc:x.own.n<=x.own.k/\x.own.k<=maxLen):Cf w' B vt' vo (lt++[x]) lo/\CN w w':=by
 have kk:CN w w':=⟨hg.size,fun k cs t hk h1 _=>hg.block k (Array.getElem?_eq_some_iff.1 hk).1 (fun e=>by
  rcases h.t.2 with⟨hv,_⟩|⟨g,cap,cur,hv,_,hgg,_⟩
  ·rw[hv]at e;cases e
  ·rw[hv]at e;cases e;rw[hgg]at hk;simp only[Option.some.injEq,Obj.cells.injEq,and_true]at hk;exact h1 hk.2.symm)⟩
 refine⟨⟨ho,?_,fun y hy=>?_,fun y hy=>(h.on y hy).keeps kk.l,fun y hy=>?_,h.oc⟩,kk⟩
 ·refine⟨h.o.1,?_⟩;rcases h.o.2 with hn|⟨g,cap,cur,hv,hbg,hgg,rest⟩
  ·exact .inl hn
  ·refine .inr ⟨g,cap,cur,hv,hbg,?_,rest⟩;refine(hg.block g (Array.getElem?_eq_some_iff.1 hgg).1 (fun e=>?_)).trans hgg;rcases h.t.2 with⟨hv,_⟩|⟨g',cap',cur',hv',_,hgg',_⟩
   ·rw[hv]at e;cases e
   ·rw[hv']at e;cases e;rw[hgg']at hgg;simp at hgg
 ·rcases List.mem_append.1 hy with hy|hy
  ·exact(h.tn y hy).keeps kk.l
  ·rw[List.mem_singleton.1 hy];exact hx.keeps kk.l
 ·rcases List.mem_append.1 hy with hy|hy
  ·exact h.tc y hy
  ·rw[List.mem_singleton.1 hy];exact hc
theorem Cf.addO{vo':Value}{x:Ae}(h:Cf w B vt vo lt lo)(ho:Ba w' B vo' (lo++[x]))(hg:w.grownBy w' vo.ownBlock)(hx:x.new B w)(hc:x.jA.n<=x.jA.k/\x.jA.k<=maxLen):Cf w' B vt vo' lt (lo++[x])/\CN w w':=by
 have kk:CN w w':=⟨hg.size,fun k cs t hk _ h1=>hg.block k (Array.getElem?_eq_some_iff.1 hk).1 (fun e=>by
  rcases h.o.2 with⟨hv,_⟩|⟨g,cap,cur,hv,_,hgg,_⟩
  ·rw[hv]at e;cases e
  ·rw[hv]at e;cases e;rw[hgg]at hk;simp only[Option.some.injEq,Obj.cells.injEq,and_true]at hk;exact h1 hk.2.symm)⟩
 refine⟨⟨?_,ho,fun y hy=>(h.tn y hy).keeps kk.l,fun y hy=>?_,h.tc,fun y hy=>?_⟩,kk⟩
 ·refine⟨h.t.1,?_⟩;rcases h.t.2 with hn|⟨g,cap,cur,hv,hbg,hgg,rest⟩
  ·exact .inl hn
  ·refine .inr ⟨g,cap,cur,hv,hbg,?_,rest⟩;refine(hg.block g (Array.getElem?_eq_some_iff.1 hgg).1 (fun e=>?_)).trans hgg;rcases h.o.2 with⟨hv,_⟩|⟨g',cap',cur',hv',_,hgg',_⟩
   ·rw[hv]at e;cases e
   ·rw[hv']at e;cases e;rw[hgg']at hgg;simp at hgg
 ·rcases List.mem_append.1 hy with hy|hy
  ·exact(h.on y hy).keeps kk.l
  ·rw[List.mem_singleton.1 hy];exact hx.keeps kk.l
 ·rcases List.mem_append.1 hy with hy|hy
  ·exact h.oc y hy
  ·rw[List.mem_singleton.1 hy];exact hc
variable {w wr w':World}{k:AJ}{vt vo:Value}{lt:List Af}{lo:List Ae}{u:Af}{a:Option Addr}{c:Nat}
theorem J8{F:Func}(tmps:Array Value)(W:World)(P n:Nat)(x y:Value)(hF:F.results=#[.cell n 27])(h:Ai W P (.cells #[x,y] 27))(h2:tmps[n]? =some (.pointer P)):
 (results F tmps).run prog W= .ok (.agg #[x,y]) W:=by
 obtain⟨z0,z1⟩:=h.two;simp[results,hF,go_sem,h2,z0,z1]
structure Nm(w:World)(k:AJ)(wr:World)(vt vo:Value)(lt:List Af)(lo:List Ae):Prop where
 st:Cf wr w vt vo lt lo
 st1:∀i,i<lt.length->(k.T i).same (Bm lt i)
 so1:∀i,i<lo.length->(k.O i).same (Aa lo i)
 a:Ai wr w (.cells #[.slice k.ta k.tn k.tk,.slice k.oa k.on k.ok] 27)
 r:Ai wr (w.heap.size+1) (.cells #[.slice none 0 0,.slice none 0 0] 27)
 o:Ai wr (w.heap.size+1+1) (.cells #[vt,vo] 27)
 be:Below w w wr
theorem Nm.below{wr':World}(h:Nm w k wr vt vo lt lo)(hb:Below wr wr wr'):Nm w k wr' vt vo lt lo:=
 ⟨h.st.below hb,h.st1,h.so1,h.a.below hb,h.r.below hb,h.o.below hb,h.be.trans (hb.mono h.be.size)⟩
theorem NV:(∀i,i<lt.length->Bm (lt++[u]) i=Bm lt i)/\Bm (lt++[u]) lt.length=u:=⟨fun i hi=>by simp[Bm,List.getElem?_append,hi],by simp[Bm]⟩
theorem NY{u:Ae}:(∀i,i<lo.length->Aa (lo++[u]) i=Aa lo i)/\Aa (lo++[u]) lo.length=u:=⟨fun i hi=>by simp[Aa,List.getElem?_append,hi],by simp[Aa]⟩
theorem Nm.addT(h:Nm w k wr vt vo lt lo)(ho:CV w' w (.slice a (lt.length+1) c) (lt++[u]))(hg:wr.grownBy w' vt.ownBlock)(hu:u.new w wr)(hs:(k.T lt.length).same u)(hc:u.own.n<=u.own.k/\u.own.k<=maxLen):
 Ai w' (w.heap.size+1+1) (.cells #[vt,vo] 27)/\Nm w k (w'.setCell ⟨w.heap.size+1+1,0,none⟩ (.slice a (lt.length+1) c)) (.slice a (lt.length+1) c) vo (lt++[u]) lo:=by
 obtain⟨k1,kk⟩:=h.st.addT ho hg hu hc;have o1:Ai w' (w.heap.size+1+1) (.cells #[vt,vo] 27):=kk.blk h.o (by decide) (by decide);have b1:Below w wr w':=below_grown hg h.be.size (fun j e=>(World.ownsRow.lt h.st.t j e).1);refine⟨o1,k1.set o1 (.inl rfl) _,fun i hi=>?_,h.so1,(kk.blk h.a (by decide) (by decide)).other (by omega) _,(kk.blk h.r (by decide) (by decide)).other (by omega) _,o1.jB (i:=0) _,(h.be.trans b1).setCell (by dsimp only;omega) _⟩;by_cases e:i<lt.length
 ·rw[NV.1 i e];exact h.st1 i e
 ·have:i=lt.length:=by simp at hi;omega
  rw[this,NV.2];exact hs
theorem Nm.addO{u:Ae}(h:Nm w k wr vt vo lt lo)(ho:Ba w' w (.slice a (lo.length+1) c) (lo++[u]))(hg:wr.grownBy w' vo.ownBlock)(hu:u.new w wr)(hs:(k.O lo.length).same u)(hc:u.jA.n<=u.jA.k/\u.jA.k<=maxLen):
 Ai w' (w.heap.size+1+1) (.cells #[vt,vo] 27)/\Nm w k (w'.setCell ⟨w.heap.size+1+1,1,none⟩ (.slice a (lo.length+1) c)) vt (.slice a (lo.length+1) c) lt (lo++[u]):=by
 obtain⟨k1,kk⟩:=h.st.addO ho hg hu hc;have o1:Ai w' (w.heap.size+1+1) (.cells #[vt,vo] 27):=kk.blk h.o (by decide) (by decide);have b1:Below w wr w':=below_grown hg h.be.size (fun j e=>(World.ownsRow.lt h.st.o j e).1);refine⟨o1,k1.set o1 (.inl rfl) _,h.st1,fun i hi=>?_,(kk.blk h.a (by decide) (by decide)).other (by omega) _,(kk.blk h.r (by decide) (by decide)).other (by omega) _,o1.jB (i:=1) _,(h.be.trans b1).setCell (by dsimp only;omega) _⟩;by_cases e:i<lo.length
 ·rw[NY.1 i e];exact h.so1 i e
 ·have:i=lo.length:=by simp at hi;omega
  rw[this,NY.2];exact hs
theorem Wk(k:AJ)(w:World)(hk:k.at w)(hs:k.small):
 Calls prog 86 #[k.val] w fun e w'=>∃(lt:List Af) (lo:List Ae) (ta oa:Option Addr) (ca co:Nat),e= .returned (.agg #[.slice ta lt.length ca,.slice oa lo.length co])/\Cf w' w (.slice ta lt.length ca) (.slice oa lo.length co) lt lo/\k.same (Dm ta ca oa co lt lo)/\Below w w w':=by
 have HT:=hid hk.2.2.1;have HO:=hid hk.2.2.2;have SMALL:=hid hs;have n2:No (.cells #[.slice none 0 0,.slice none 0 0] 27):=⟨⟩;have n3:No (.cells #[.slice k.ta k.tn k.tk,.slice k.oa k.on k.ok] 27):=⟨⟩;have n4:Nw (((w.alloc n3).alloc n2).alloc n2):=⟨⟩;have b0:Below w w n4:=((CY w _).alloc (by simp) _).alloc (by simp;omega) _;have S0:Hid (Nm w k n4 (.slice none 0 0) (.slice none 0 0) [] []):=hid ⟨⟨CV.nil _ _,Ba.nil _ _,fun x hx=>absurd hx List.not_mem_nil,fun x hx=>absurd hx List.not_mem_nil,fun x hx=>absurd hx List.not_mem_nil,fun x hx=>absurd hx List.not_mem_nil⟩,fun i hi=>absurd hi (Nat.not_lt_zero i),fun i hi=>absurd hi (Nat.not_lt_zero i),((Ai.new w n3).alloc _).alloc _,(by have:=(Ai.new (w.alloc n3) n2).alloc n2;simpa using this),(by have:=Ai.new ((w.alloc n3).alloc n2) n2;simpa using this),b0⟩;clear hk hs b0;unfold AJ.val;go_enter func86,ntmps86
 go_wp2;go_loopw [4] (fun i wr=>∃(lt:List Af) (ta:Option Addr) (ca:Nat),lt.length<=k.tn/\i= .int .i64 lt.length/\Nm w k wr (.slice ta lt.length ca) (.slice none 0 0) lt []) (fun i _=>k.tn-(intOf i).toNat)
 case atStart=>exact⟨[],none,0,Nat.zero_le _,rfl,S0⟩
 case round=>
  clear S0;obtain⟨lt,ta,ca,hl,rfl,st⟩:=hrel;have S1:=hid st;clear st;by_cases hlt:lt.length<k.tn
  ·have i1:(lt.length:Int)<(k.tn:Int):=(by omega);have i0:(0:Int)<=(lt.length:Int):=(by omega);obtain⟨b,off,ea,hbl,hc⟩:=HT.out (by omega);have bd:Below wr wr wr.drew:=(Below.refl _ wr).drew;have SD:=hid (S1.out.below bd);have CC:KZ wr.drew b (off+lt.length*7) (k.T lt.length):=(hc lt.length hlt).1.below hbl ((Below.refl _ w).trans (SD.out.be.mono nr));have q0:wr.drew.cell? ⟨b,off+lt.length*7,none⟩=some (.int .i64 (k.T lt.length).id):=CC.c0;have q1:wr.drew.cell? ⟨b,off+lt.length*7+1,none⟩=some (.int .i64 (k.T lt.length).b1):=CC.c1;have q2:wr.drew.cell? ⟨b,off+lt.length*7+2,none⟩=some (.slice (k.T lt.length).c1.a (k.T lt.length).c1.n (k.T lt.length).c1.k):=CC.c2;have q3:wr.drew.cell? ⟨b,off+lt.length*7+3,none⟩=some (.int .i64 (k.T lt.length).b2):=CC.c3;have q4:wr.drew.cell? ⟨b,off+lt.length*7+4,none⟩=some (.slice (k.T lt.length).c2.a (k.T lt.length).c2.n (k.T lt.length).c2.k):=CC.c4;have q5:wr.drew.cell? ⟨b,off+lt.length*7+5,none⟩=some (.slice (k.T lt.length).own.a (k.T lt.length).own.n (k.T lt.length).own.k):=CC.c5;have q6:wr.drew.cell? ⟨b,off+lt.length*7+6,none⟩=some (.int .i64 (k.T lt.length).made):=CC.c6;have hbw:b<wr.heap.size:=Nat.lt_of_lt_of_le hbl S1.out.be.size;obtain⟨a0,a1⟩:=S1.out.a.two;obtain⟨x0,x1⟩:=SD.out.a.two;obtain⟨y0,y1⟩:=SD.out.o.two;have CP:Hid (Calls prog 105 #[.agg #[.int .i64 (k.T lt.length).id,.int .i64 (k.T lt.length).b1,.slice (k.T lt.length).c1.a (k.T lt.length).c1.n (k.T lt.length).c1.k,.int .i64 (k.T lt.length).b2,.slice (k.T lt.length).c2.a (k.T lt.length).c2.n (k.T lt.length).c2.k,.slice (k.T lt.length).own.a (k.T lt.length).own.n (k.T lt.length).own.k,.int .i64 (k.T lt.length).made]] wr.drew fun e w'=>∃v,e= .returned v/\(∃u:Af,v= .agg u/\(k.T lt.length).same u/\u.new wr.drew.heap.size w'/\(u.own.n<=u.own.k/\u.own.k<=maxLen)/\Below wr.drew.heap.size wr.drew w')):=hid ((MK (k.T lt.length) wr.drew ((hc lt.length hlt).2.below SD.out.be) (SMALL.out.1.2 lt.length hlt)).mono fun _ _ ⟨u,e1,h1,h2,h3,h4⟩=>⟨_,e1,u,rfl,h1,h2,h3,h4⟩);have EG:Hid (∀args w,(callFunc 105 args).run prog w= .ok (.enter 105 args) w):=hid (enters_of func105 (by kernel_rfl) rfl);have lm:lt.length<=1048576:=(by have:=SMALL.out.1.1;omega);rw[ea]at a0 x0;clear hc CC ea bd;have sz0:=S1.out.be.size;go_wp2_with fail
   go_region_law(first
    |(refine Kq (by rfl) 105 _ _ (by rfl) EG _ (by rfl) _ CP ?_;rintro v w5 ⟨u,rfl,su,nu,cu,b5⟩;have CU:=hid cu;have S5:=hid (SD.out.below b5);have S5a:=hid ((SD.out.below b5).below (CY w5 (.cells u 47)));have N5:=hid ((nu.low SD.out.be.size).keeps (CN.of_below (CY w5 (.cells u 47))).l);have SU:=hid su;have ONE:Hid (Bh (w5.alloc (.cells u 47)) (some ⟨w5,0,none⟩) 1 (Ci [u])):=hid (CV.one w5 u);have s5:w.heap.size<=(w5.alloc (.cells u 47)).heap.size:=S5a.out.be.size;obtain⟨m0,m1⟩:=S5.out.o.two;obtain⟨n0,n1⟩:=S5a.out.o.two;clear su nu b5 cu)
    |(refine JD (by rfl) _ _ (by rfl) w (.slice ta lt.length ca) lt (by rfl) S5a.out.st.t _ _ u (by rfl) ONE lm s5 ?_;intro a7 c7 w7 o7 g7;have AD:=S5a.out.addT o7 g7 N5 SU CU.out;have S7:=hid AD.2;obtain⟨z0,z1⟩:=AD.1.two;have zf:=AD.1.jC;clear AD o7 g7))
   all_goals(
    clear m0 m1 n0 n1 x0 x1 y0 y1 q0 q1 q2 q3 q4 q5 q6 a0 a1;go_wp2;go_roundw;case rel=>exact⟨lt++[u],a7,c7,by simp;omega,by first|go_num|(congr 1;simp),by rw[show(lt++[u]).length=lt.length+1 from by simp];exact S7.out⟩
    case measure=>simp[intOf];omega)
  ·have i1:¬(lt.length:Int)<(k.tn:Int):=(by omega);have ET:Hid (lt.length=k.tn):=hid (by omega);obtain⟨a0,a1⟩:=S1.out.a.two;have ST:=S1;clear S1;go_wp2;clear a0 a1 i1 hlt hl;go_loopw [5] (fun i wr=>∃(lo:List Ae) (oa:Option Addr) (co:Nat),lo.length<=k.on/\i= .int .i64 lo.length/\Nm w k wr (.slice ta lt.length ca) (.slice oa lo.length co) lt lo) (fun i _=>k.on-(intOf i).toNat)
   case atStart=>exact⟨[],none,0,Nat.zero_le _,rfl,ST⟩
   case round=>
    clear ST;obtain⟨lo,oa,co,hl,rfl,st⟩:=hrel;have S1:=hid st;clear st;by_cases hlt:lo.length<k.on
    ·have i1:(lo.length:Int)<(k.on:Int):=(by omega);have i0:(0:Int)<=(lo.length:Int):=(by omega);obtain⟨b,off,ea,hbl,hc⟩:=HO.out (by omega);have bd:Below wr wr wr.drew:=(Below.refl _ wr).drew;have SD:=hid (S1.out.below bd);have CC:Eg wr.drew b (off+lo.length*10) (k.O lo.length):=(hc lo.length hlt).1.below hbl ((Below.refl _ w).trans (SD.out.be.mono nr));have q0:wr.drew.cell? ⟨b,off+lo.length*10,none⟩=some (.int .i64 (k.O lo.length).id):=CC.c0;have q1:wr.drew.cell? ⟨b,off+lo.length*10+1,none⟩=some (.int .i64 (k.O lo.length).kind):=CC.c1;have q2:wr.drew.cell? ⟨b,off+lo.length*10+2,none⟩=some (.int .i64 (k.O lo.length).up):=CC.c2;have q3:wr.drew.cell? ⟨b,off+lo.length*10+3,none⟩=some (.int .i64 (k.O lo.length).b1):=CC.c3;have q4:wr.drew.cell? ⟨b,off+lo.length*10+4,none⟩=some (.slice (k.O lo.length).c1.a (k.O lo.length).c1.n (k.O lo.length).c1.k):=CC.c4;have q5:wr.drew.cell? ⟨b,off+lo.length*10+5,none⟩=some (.string (k.O lo.length).data):=CC.c5;have q6:wr.drew.cell? ⟨b,off+lo.length*10+6,none⟩=some (.slice (k.O lo.length).jA.a (k.O lo.length).jA.n (k.O lo.length).jA.k):=CC.c6;have q7:wr.drew.cell? ⟨b,off+lo.length*10+7,none⟩=some (.slice (k.O lo.length).own.a (k.O lo.length).own.n (k.O lo.length).own.k):=CC.c7;have q8:wr.drew.cell? ⟨b,off+lo.length*10+8,none⟩=some (.int .i64 (k.O lo.length).b2):=CC.c8;have q9:wr.drew.cell? ⟨b,off+lo.length*10+9,none⟩=some (.slice (k.O lo.length).c2.a (k.O lo.length).c2.n (k.O lo.length).c2.k):=CC.c9;have hbw:b<wr.heap.size:=Nat.lt_of_lt_of_le hbl S1.out.be.size;obtain⟨a0,a1⟩:=S1.out.a.two;obtain⟨x0,x1⟩:=SD.out.a.two;obtain⟨y0,y1⟩:=SD.out.o.two;have CP:Hid (Calls prog 106 #[.agg #[.int .i64 (k.O lo.length).id,.int .i64 (k.O lo.length).kind,.int .i64 (k.O lo.length).up,.int .i64 (k.O lo.length).b1,.slice (k.O lo.length).c1.a (k.O lo.length).c1.n (k.O lo.length).c1.k,.string (k.O lo.length).data,.slice (k.O lo.length).jA.a (k.O lo.length).jA.n (k.O lo.length).jA.k,.slice (k.O lo.length).own.a (k.O lo.length).own.n (k.O lo.length).own.k,.int .i64 (k.O lo.length).b2,.slice (k.O lo.length).c2.a (k.O lo.length).c2.n (k.O lo.length).c2.k]] wr.drew fun e w'=>∃v,e= .returned v/\(∃u:Ae,v= .agg u/\(k.O lo.length).same u/\u.new wr.drew.heap.size w'/\(u.jA.n<=u.jA.k/\u.jA.k<=maxLen)/\Below wr.drew.heap.size wr.drew w')):=hid ((ML (k.O lo.length) wr.drew ((hc lo.length hlt).2.below SD.out.be) (SMALL.out.2.2 lo.length hlt)).mono fun _ _ ⟨u,e1,h1,h2,h3,h4⟩=>⟨_,e1,u,rfl,h1,h2,h3,h4⟩);have EG:Hid (∀args w,(callFunc 106 args).run prog w= .ok (.enter 106 args) w):=hid (enters_of func106 (by kernel_rfl) rfl);have lm:lo.length<=1048576:=(by have:=SMALL.out.2.1;omega);rw[ea]at a1 x1;clear hc CC ea bd;have sz0:=S1.out.be.size;go_wp2_with fail
     go_region_law(first
      |(refine Kq (by rfl) 106 _ _ (by rfl) EG _ (by rfl) _ CP ?_;rintro v w5 ⟨u,rfl,su,nu,cu,b5⟩;have CU:=hid cu;have S5:=hid (SD.out.below b5);have S5a:=hid ((SD.out.below b5).below (CY w5 (.cells u 51)));have N5:=hid ((nu.low SD.out.be.size).keeps (CN.of_below (CY w5 (.cells u 51))).l);have SU:=hid su;have ONE:Hid (Bh (w5.alloc (.cells u 51)) (some ⟨w5,0,none⟩) 1 (AY [u])):=hid (Ba.one w5 u);have s5:w.heap.size<=(w5.alloc (.cells u 51)).heap.size:=S5a.out.be.size;obtain⟨m0,m1⟩:=S5.out.o.two;obtain⟨n0,n1⟩:=S5a.out.o.two;clear su nu b5 cu)
      |(refine IW (by rfl) _ _ (by rfl) w (.slice oa lo.length co) lo (by rfl) S5a.out.st.o _ _ u (by rfl) ONE lm s5 ?_;intro a7 c7 w7 o7 g7;have AD:=S5a.out.addO o7 g7 N5 SU CU.out;have S7:=hid AD.2;obtain⟨z0,z1⟩:=AD.1.two;have zf:=AD.1.jC;clear AD o7 g7))
     all_goals(
      clear m0 m1 n0 n1 x0 x1 y0 y1 q0 q1 q2 q3 q4 q5 q6 q7 q8 q9 a0 a1;go_wp2;go_roundw;case rel=>exact⟨lo++[u],a7,c7,by simp;omega,by first|go_num|(congr 1;simp),by rw[show(lo++[u]).length=lo.length+1 from by simp];exact S7.out⟩
      case measure=>simp[intOf];omega)
    ·have el:lo.length=k.on:=(by omega);have i1:¬(lo.length:Int)<(k.on:Int):=(by omega);have EL:=hid el;obtain⟨a0,a1⟩:=S1.out.a.two;obtain⟨y0,y1⟩:=S1.out.o.two;obtain⟨r0,r1⟩:=S1.out.r.two;have rf:=S1.out.r.jC;clear el;go_wp2;refine bodyPost_ret (J8 _ _ (w.heap.size+1) 2 _ _ Tryz.results86 ((S1.out.r.jB (i:=0) _).jB (i:=1) _) rfl) rfl ⟨lt,lo,ta,oa,ca,co,rfl,(S1.out.st.set S1.out.r (.inl rfl) _).set (S1.out.r.jB (i:=0) _) (.inl rfl) _,⟨ET,fun j hj=>S1.out.st1 j (by rw[ET.out];exact hj),EL,fun j hj=>S1.out.so1 j (by rw[EL.out];exact hj)⟩,?_⟩;exact(S1.out.be.setCell (by dsimp only;omega) _).setCell (by dsimp only;omega) _
end Go.Proofs.YtblapfnglojgjaaGreatDoor
