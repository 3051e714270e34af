import Derived.Test.YtbacmamplkdgaaaGreatDoorZ5b
import Derived.Test.YtbacmamplkdgaaaGreatDoorZ4b
set_option maxRecDepth 100000
set_option maxHeartbeats 8000000
namespace Go.Proofs.YtbacmamplkdgaaaGreatDoor
open Go Go.RowKit Go.Deep Go.Maps Go.BigFrame Go.Shelf
theorem results46(tmps:Array Value)(W:World)(P:Nat)(x0 x1 x2 x3 x4 x5 x6 x7 x8 x9:Value)(h:Blk W P (.cells #[x0,x1,x2,x3,x4,x5,x6,x7,x8,x9] 42))(h2:tmps[2]? =some (.pointer (some ⟨P,0,none⟩))):
 (results Tryz.f165 tmps).run Tryz.prog W= .ok (.agg #[x0,x1,x2,x3,x4,x5,x6,x7,x8,x9]) W:=by
 obtain⟨z0,z1,z2,z3,z4,z5,z6,z7,z8,z9⟩:=h.ten;simp[results,Tryz.results165,go_sem,h2,z0,z1,z2,z3,z4,z5,z6,z7,z8,z9]
theorem ownS_newL{w:World}{B n c:Nat}{a:Option Addr}{f:Nat→ByteArray}(h:w.ownsRow B 9 1 (.slice a n c) n ((List.range n).map (fun i=>Value.string (f i))))(hn:n≤1048576)(hz:∀i,i<n→(f i).size≤maxLen):StrL.new B w ⟨a,n,c,f⟩:=by
 have hi:StrAt w a n f:=fun h0=>by
  obtain⟨b,off,e,hlt,hcc⟩:=LiesC.own h h0;exact⟨b,off,e,hlt,fun i hi=>hcc i _ (by simp[hi])⟩
 exact⟨⟨by unfold maxLen;simp only;omega,hi,hz⟩,fun h0=>row_of_ownS h h0⟩
theorem ownI_newL{w:World}{B n c:Nat}{a:Option Addr}{f:Nat→Int}(h:w.ownsRow B 2 1 (.slice a n c) n (((List.range n).map f).map (Value.int .i64)))(hn:n≤1048576):IntL.new B w ⟨a,n,c,f⟩:=by
 have el:((List.range n).map f).length=n:=by simp
 have ho':OwnI w B (.slice a ((List.range n).map f).length c) ((List.range n).map f):=by unfold OwnI;rw[el];exact h
 have hi:IntsAt w a n f:=fun h0=>by
  obtain⟨b,off,e,hlt,hcc⟩:=(OwnI.lies ho').ints (by rw[el];exact h0);refine⟨b,off,e,hlt,fun i hi=>?_⟩;have:=hcc i (by rw[el];exact hi);rw[this];simp[nthI,hi]
 exact⟨⟨by unfold maxLen;simp only;omega,hi⟩,fun h0=>by have:=row_of_own h h0;simpa using this⟩
theorem l3CopyObject_cap(t:ObjV)(w:World)(ht:t.at w)(hs:t.small):
 Calls Tryz.prog 165 #[t.val] w fun e w'=>∃u:ObjV,e= .returned u.val∧t.same u∧u.new w.heap.size w'∧(u.items.n≤u.items.k∧u.items.k≤maxLen)∧Below w.heap.size w w':=by
 have b0:Below w.heap.size w ((w.alloc t.blk).alloc zeroBlk):=((Below.refl _ w).alloc (Nat.le_refl _) _).alloc (by simp) _;have A0:=(Blk.new w t.blk).alloc zeroBlk;have R0:Blk ((w.alloc t.blk).alloc zeroBlk) (w.heap.size+1) zeroBlk:=by
  have:=Blk.new (w.alloc t.blk) zeroBlk;simpa using this
 have HT:=hid ht;obtain⟨m1,m2,m3,m4,m5⟩:=hs;have ne1:¬w.heap.size+1=w.heap.size:=by omega
 have ne2:¬w.heap.size=w.heap.size+1:=by omega
 have PA:Hid (∀W,Below w.heap.size w W→Calls Tryz.prog 168 #[.agg #[.int .i64 t.b1,t.c1.val]] W fun e w'=>∃d:CatL,e= .returned (.agg #[.int .i64 t.b1,.slice d.a d.n d.k])∧t.c1.same d∧d.new W.heap.size w'∧Below W.heap.size W w'):=hid (fun W hW=>l3CopyLabel_any t.b1 t.c1 W (HT.out.below hW).1 m1);have PB:Hid (∀W,Below w.heap.size w W→Calls Tryz.prog 168 #[.agg #[.int .i64 t.b2,t.c2.val]] W fun e w'=>∃d:CatL,e= .returned (.agg #[.int .i64 t.b2,.slice d.a d.n d.k])∧t.c2.same d∧d.new W.heap.size w'∧Below W.heap.size W w'):=hid (fun W hW=>l3CopyLabel_any t.b2 t.c2 W (HT.out.below hW).2.2.2.1 m5);have LS:Hid (∀W,Below w.heap.size w W→LiesC W t.items.a t.items.n ((List.range t.items.n).map (fun i=>Value.string (t.items.f i)))):=hid (fun W hW=>strs_lies (HT.out.below hW).2.1.2.1);have LI:Hid (∀W,Below w.heap.size w W→LiesC W t.own.a t.own.n (((List.range t.own.n).map t.own.h).map (Value.int .i64))):=hid (fun W hW=>by
  have L0:=(HT.out.below hW).2.2.1.2.intL;have el:((List.range t.own.n).map t.own.h).length=t.own.n:=by simp
  unfold NumL at L0;rw[el]at L0;exact L0)
 have ZI:=hid (HT.out.2.1.2.2);unfold ObjV.blk zeroBlk at b0 A0 R0;unfold ObjV.val;unfold CatL.val IntL.val StrL.val at *;clear ht;obtain⟨x0,x1,x2,x3,x4,x5,x6,x7,x8,x9⟩:=A0.ten;have C1:=hid (PA.out _ b0);go_enter Tryz.func165,Tryz.ntmps165
 go_wp2_with fail
 refine C1.out.mono ?_;rintro e w1 ⟨d1,rfl,s1,n1,h1⟩;have S1:=hid s1;have A1:=A0.below h1;have R1:=R0.below h1;have B1:=then_ b0 h1;have L1:=b0.size;have N1:=hid (n1.low L1);have af:=A1.warm;have A1':Blk ((w1.setCell ⟨w.heap.size,3,none⟩ (.int .i64 t.b1)).setCell ⟨w.heap.size,4,none⟩ (.slice d1.a d1.n d1.k)) w.heap.size (.cells #[.int .i64 t.id,.int .i64 t.kind,.int .i64 t.up,.int .i64 t.b1,.slice d1.a d1.n d1.k,.string t.data,.slice t.items.a t.items.n t.items.k,.slice t.own.a t.own.n t.own.k,.int .i64 t.b2,.slice t.c2.a t.c2.n t.c2.k] 42):=(A1.setAt (i:=3) (.int .i64 t.b1)).setAt (i:=4) (.slice d1.a d1.n d1.k);have R1':Blk ((w1.setCell ⟨w.heap.size,3,none⟩ (.int .i64 t.b1)).setCell ⟨w.heap.size,4,none⟩ (.slice d1.a d1.n d1.k)) (w.heap.size+1) (.cells #[.int .i64 0,.int .i64 0,.int .i64 0,.int .i64 0,.slice none 0 0,.string (ByteArray.mk #[]),.slice none 0 0,.slice none 0 0,.int .i64 0,.slice none 0 0] 42):=(R1.other (by omega) _).other (by omega) _;have B1':Below w.heap.size w ((w1.setCell ⟨w.heap.size,3,none⟩ (.int .i64 t.b1)).setCell ⟨w.heap.size,4,none⟩ (.slice d1.a d1.n d1.k)):=(B1.setCell (Nat.le_refl _) _).setCell (Nat.le_refl _) _;have N1':Hid (d1.new w.heap.size ((w1.setCell ⟨w.heap.size,3,none⟩ (.int .i64 t.b1)).setCell ⟨w.heap.size,4,none⟩ (.slice d1.a d1.n d1.k))):=hid (N1.out.of (by simp) (fun g hg hn'=>by
  have q1:=N1.out.ne A1 (by decide) g hg hn';iterate 2 rw[blk_setCell_other _ _ _ _ (by dsimp only;omega)]))
 obtain⟨y0,y1,y2,y3,y4,y5,y6,y7,y8,y9⟩:=A1.ten;obtain⟨z0,z1,z2,z3,z4,z5,z6,z7,z8,z9⟩:=A1'.ten;have C2:=hid (PB.out _ B1');clear x0 x1 x2 x3 x4 x5 x6 x7 x8 x9 C1 s1 n1 h1 N1 A0 R0 b0 R1 B1;go_wp2_with fail
 refine C2.out.mono ?_;rintro e w2 ⟨d2,rfl,s2,n2,h2⟩;have S2:=hid s2;have A2:=A1'.below h2;have R2:=R1'.below h2;have B2:=then_ B1' h2;have N1:=hid (N1'.out.below h2);have N2:=hid (n2.low B1'.size);have af2:=A2.warm;have A2':Blk ((w2.setCell ⟨w.heap.size,8,none⟩ (.int .i64 t.b2)).setCell ⟨w.heap.size,9,none⟩ (.slice d2.a d2.n d2.k)) w.heap.size (.cells #[.int .i64 t.id,.int .i64 t.kind,.int .i64 t.up,.int .i64 t.b1,.slice d1.a d1.n d1.k,.string t.data,.slice t.items.a t.items.n t.items.k,.slice t.own.a t.own.n t.own.k,.int .i64 t.b2,.slice d2.a d2.n d2.k] 42):=(A2.setAt (i:=8) (.int .i64 t.b2)).setAt (i:=9) (.slice d2.a d2.n d2.k);have R2':Blk ((w2.setCell ⟨w.heap.size,8,none⟩ (.int .i64 t.b2)).setCell ⟨w.heap.size,9,none⟩ (.slice d2.a d2.n d2.k)) (w.heap.size+1) (.cells #[.int .i64 0,.int .i64 0,.int .i64 0,.int .i64 0,.slice none 0 0,.string (ByteArray.mk #[]),.slice none 0 0,.slice none 0 0,.int .i64 0,.slice none 0 0] 42):=(R2.other (by omega) _).other (by omega) _;have B2':Below w.heap.size w ((w2.setCell ⟨w.heap.size,8,none⟩ (.int .i64 t.b2)).setCell ⟨w.heap.size,9,none⟩ (.slice d2.a d2.n d2.k)):=(B2.setCell (Nat.le_refl _) _).setCell (Nat.le_refl _) _;have M1:Hid (d1.new w.heap.size ((w2.setCell ⟨w.heap.size,8,none⟩ (.int .i64 t.b2)).setCell ⟨w.heap.size,9,none⟩ (.slice d2.a d2.n d2.k))):=hid (N1.out.of (by simp) (fun g hg hn'=>by
  have q1:=N1.out.ne A2 (by decide) g hg hn';iterate 2 rw[blk_setCell_other _ _ _ _ (by dsimp only;omega)]))
 have M2:Hid (d2.new w.heap.size ((w2.setCell ⟨w.heap.size,8,none⟩ (.int .i64 t.b2)).setCell ⟨w.heap.size,9,none⟩ (.slice d2.a d2.n d2.k))):=hid (N2.out.of (by simp) (fun g hg hn'=>by
  have q1:=N2.out.ne A2 (by decide) g hg hn';iterate 2 rw[blk_setCell_other _ _ _ _ (by dsimp only;omega)]))
 clear y0 y1 y2 y3 y4 y5 y6 y7 y8 y9 z0 z1 z2 z3 z4 z5 z6 z7 z8 z9 C2 s2 n2 h2 N1 N2 N1' A1 A1' R1' B1' R2 B2 af L1;obtain⟨y0,y1,y2,y3,y4,y5,y6,y7,y8,y9⟩:=A2.ten;have b3:Below ((w2.setCell ⟨w.heap.size,8,none⟩ (.int .i64 t.b2)).setCell ⟨w.heap.size,9,none⟩ (.slice d2.a d2.n d2.k)).heap.size ((w2.setCell ⟨w.heap.size,8,none⟩ (.int .i64 t.b2)).setCell ⟨w.heap.size,9,none⟩ (.slice d2.a d2.n d2.k)) (((w2.setCell ⟨w.heap.size,8,none⟩ (.int .i64 t.b2)).setCell ⟨w.heap.size,9,none⟩ (.slice d2.a d2.n d2.k)).alloc (.cells #[] 9)):=(Below.refl _ _).alloc (Nat.le_refl _) _;have e2:((w2.setCell ⟨w.heap.size,8,none⟩ (.int .i64 t.b2)).setCell ⟨w.heap.size,9,none⟩ (.slice d2.a d2.n d2.k)).heap.size=w2.heap.size:=by simp
 have OM:Hid ((((w2.setCell ⟨w.heap.size,8,none⟩ (.int .i64 t.b2)).setCell ⟨w.heap.size,9,none⟩ (.slice d2.a d2.n d2.k)).alloc (.cells #[] 9)).ownsRow w.heap.size 9 1 (.slice (some ⟨w2.heap.size,0,none⟩) 0 0) 0 []):=hid (by
  have:=World.ownsRow_made (e:=9) (size:=1) ((w2.setCell ⟨w.heap.size,8,none⟩ (.int .i64 t.b2)).setCell ⟨w.heap.size,9,none⟩ (.slice d2.a d2.n d2.k)) #[] 0 B2'.size (Nat.zero_le _) rfl;rw[e2]at this;exact this)
 have LM:=hid (LS.out _ (then_ B2' b3));have SZ:=(then_ B2' b3).size;have P2:w.heap.size+1<w2.heap.size:=by have:=R2'.lt;rw[e2]at this;exact this
 obtain⟨z0,z1,z2,z3,z4,z5,z6,z7,z8,z9⟩:=(A2'.below b3).ten;have F3:Hid (∀(a3:Option Addr) (c3:Nat) (w3:World),w3.ownsRow w.heap.size 9 1 (.slice a3 t.items.n c3) t.items.n ((List.range t.items.n).map (fun i=>Value.string (t.items.f i)))→(((w2.setCell ⟨w.heap.size,8,none⟩ (.int .i64 t.b2)).setCell ⟨w.heap.size,9,none⟩ (.slice d2.a d2.n d2.k)).alloc (.cells #[] 9)).grownBy w3 (some w2.heap.size)→Blk w3 w.heap.size (.cells #[.int .i64 t.id,.int .i64 t.kind,.int .i64 t.up,.int .i64 t.b1,.slice d1.a d1.n d1.k,.string t.data,.slice t.items.a t.items.n t.items.k,.slice t.own.a t.own.n t.own.k,.int .i64 t.b2,.slice d2.a d2.n d2.k] 42)∧Blk w3 (w.heap.size+1) (.cells #[.int .i64 0,.int .i64 0,.int .i64 0,.int .i64 0,.slice none 0 0,.string (ByteArray.mk #[]),.slice none 0 0,.slice none 0 0,.int .i64 0,.slice none 0 0] 42)∧Below w.heap.size w w3∧d1.new w.heap.size w3∧d2.new w.heap.size w3∧StrL.new w.heap.size w3 ⟨a3,t.items.n,c3,t.items.f⟩):=hid (fun a3 c3 w3 o3 g3=>by
  have rn:∀c:CatL,c.new w.heap.size ((w2.setCell ⟨w.heap.size,8,none⟩ (.int .i64 t.b2)).setCell ⟨w.heap.size,9,none⟩ (.slice d2.a d2.n d2.k))→c.new w.heap.size w3:=fun c hc=>(hc.below b3).of g3.size (fun b hb hn=>g3.block b (by obtain⟨b',_,_,e',_,_,hr⟩:=(hc.below b3).2 hn;rw[hb]at e';cases e';exact hr.lt) (fun e=>by
   obtain⟨b',_,_,e',_,_,hr⟩:=hc.2 hn;rw[hb]at e';cases e';have h1:=hr.lt;have h2:=Option.some.inj e;rw[e2]at h1;omega))
  refine⟨(A2'.below b3).grown g3 (by simp;omega),(R2'.below b3).grown g3 (by simp;omega),(then_ B2' b3).trans (below_grown g3 SZ (fun j hj=>by cases hj;omega)),rn d1 M1.out,rn d2 M2.out,ownS_newL o3 m3.1 ZI.out⟩)
 have AR3:Hid (∀(a3:Option Addr) (c3:Nat) (w3:World),Blk w3 w.heap.size (.cells #[.int .i64 t.id,.int .i64 t.kind,.int .i64 t.up,.int .i64 t.b1,.slice d1.a d1.n d1.k,.string t.data,.slice t.items.a t.items.n t.items.k,.slice t.own.a t.own.n t.own.k,.int .i64 t.b2,.slice d2.a d2.n d2.k] 42)→Blk w3 (w.heap.size+1) (.cells #[.int .i64 0,.int .i64 0,.int .i64 0,.int .i64 0,.slice none 0 0,.string (ByteArray.mk #[]),.slice none 0 0,.slice none 0 0,.int .i64 0,.slice none 0 0] 42)→Below w.heap.size w w3→d1.new w.heap.size w3→d2.new w.heap.size w3→StrL.new w.heap.size w3 ⟨a3,t.items.n,c3,t.items.f⟩→
  Blk (w3.setCell ⟨w.heap.size,6,none⟩ (.slice a3 t.items.n c3)) w.heap.size (.cells #[.int .i64 t.id,.int .i64 t.kind,.int .i64 t.up,.int .i64 t.b1,.slice d1.a d1.n d1.k,.string t.data,.slice a3 t.items.n c3,.slice t.own.a t.own.n t.own.k,.int .i64 t.b2,.slice d2.a d2.n d2.k] 42)∧Blk (w3.setCell ⟨w.heap.size,6,none⟩ (.slice a3 t.items.n c3)) (w.heap.size+1) (.cells #[.int .i64 0,.int .i64 0,.int .i64 0,.int .i64 0,.slice none 0 0,.string (ByteArray.mk #[]),.slice none 0 0,.slice none 0 0,.int .i64 0,.slice none 0 0] 42)∧Below w.heap.size w (w3.setCell ⟨w.heap.size,6,none⟩ (.slice a3 t.items.n c3))∧d1.new w.heap.size (w3.setCell ⟨w.heap.size,6,none⟩ (.slice a3 t.items.n c3))∧d2.new w.heap.size (w3.setCell ⟨w.heap.size,6,none⟩ (.slice a3 t.items.n c3))∧StrL.new w.heap.size (w3.setCell ⟨w.heap.size,6,none⟩ (.slice a3 t.items.n c3)) ⟨a3,t.items.n,c3,t.items.f⟩):=hid (fun a3 c3 w3 A R B k1 k2 k4=>
  ⟨A.setAt (i:=6) _,R.other (by omega) _,B.setCell (Nat.le_refl _) _,k1.of (by simp) (fun g hg hn'=>by have q1:=k1.ne A (by decide) g hg hn';rw[blk_setCell_other _ _ _ _ (by dsimp only;omega)]),k2.of (by simp) (fun g hg hn'=>by have q1:=k2.ne A (by decide) g hg hn';rw[blk_setCell_other _ _ _ _ (by dsimp only;omega)]),k4.of (by simp) (fun g hg hn'=>by have q1:=k4.ne A (by decide) g hg hn';rw[blk_setCell_other _ _ _ _ (by dsimp only;omega)])⟩)
 have O3:Hid (∀(a3:Option Addr) (c3:Nat) (w3:World),Below w.heap.size w (w3.setCell ⟨w.heap.size,6,none⟩ (.slice a3 t.items.n c3))→((w3.setCell ⟨w.heap.size,6,none⟩ (.slice a3 t.items.n c3)).alloc (.cells #[] 2)).ownsRow w.heap.size 2 1 (.slice (some ⟨w3.heap.size,0,none⟩) 0 0) 0 []):=hid (fun a3 c3 w3 B=>by
  have:=World.ownsRow_made (e:=2) (size:=1) (w3.setCell ⟨w.heap.size,6,none⟩ (.slice a3 t.items.n c3)) #[] 0 B.size (Nat.zero_le _) rfl;have e3:(w3.setCell ⟨w.heap.size,6,none⟩ (.slice a3 t.items.n c3)).heap.size=w3.heap.size:=by simp
  rw[e3]at this;exact this)
 have F4:Hid (∀(a3:Option Addr) (c3:Nat) (w3:World) (a4:Option Addr) (c4:Nat) (w4:World),Blk (w3.setCell ⟨w.heap.size,6,none⟩ (.slice a3 t.items.n c3)) w.heap.size (.cells #[.int .i64 t.id,.int .i64 t.kind,.int .i64 t.up,.int .i64 t.b1,.slice d1.a d1.n d1.k,.string t.data,.slice a3 t.items.n c3,.slice t.own.a t.own.n t.own.k,.int .i64 t.b2,.slice d2.a d2.n d2.k] 42)→Blk (w3.setCell ⟨w.heap.size,6,none⟩ (.slice a3 t.items.n c3)) (w.heap.size+1) (.cells #[.int .i64 0,.int .i64 0,.int .i64 0,.int .i64 0,.slice none 0 0,.string (ByteArray.mk #[]),.slice none 0 0,.slice none 0 0,.int .i64 0,.slice none 0 0] 42)→Below w.heap.size w (w3.setCell ⟨w.heap.size,6,none⟩ (.slice a3 t.items.n c3))→d1.new w.heap.size (w3.setCell ⟨w.heap.size,6,none⟩ (.slice a3 t.items.n c3))→d2.new w.heap.size (w3.setCell ⟨w.heap.size,6,none⟩ (.slice a3 t.items.n c3))→StrL.new w.heap.size (w3.setCell ⟨w.heap.size,6,none⟩ (.slice a3 t.items.n c3)) ⟨a3,t.items.n,c3,t.items.f⟩→w4.ownsRow w.heap.size 2 1 (.slice a4 t.own.n c4) t.own.n (((List.range t.own.n).map t.own.h).map (Value.int .i64))→((w3.setCell ⟨w.heap.size,6,none⟩ (.slice a3 t.items.n c3)).alloc (.cells #[] 2)).grownBy w4 (some w3.heap.size)→
  Blk w4 w.heap.size (.cells #[.int .i64 t.id,.int .i64 t.kind,.int .i64 t.up,.int .i64 t.b1,.slice d1.a d1.n d1.k,.string t.data,.slice a3 t.items.n c3,.slice t.own.a t.own.n t.own.k,.int .i64 t.b2,.slice d2.a d2.n d2.k] 42)∧Blk w4 (w.heap.size+1) (.cells #[.int .i64 0,.int .i64 0,.int .i64 0,.int .i64 0,.slice none 0 0,.string (ByteArray.mk #[]),.slice none 0 0,.slice none 0 0,.int .i64 0,.slice none 0 0] 42)∧Below w.heap.size w w4∧d1.new w.heap.size w4∧d2.new w.heap.size w4∧StrL.new w.heap.size w4 ⟨a3,t.items.n,c3,t.items.f⟩∧IntL.new w.heap.size w4 ⟨a4,t.own.n,c4,t.own.h⟩):=hid (fun a3 c3 w3 a4 c4 w4 A R B k1 k2 k4 o4 g4=>by
  have e3:(w3.setCell ⟨w.heap.size,6,none⟩ (.slice a3 t.items.n c3)).heap.size=w3.heap.size:=by simp
  have b4:Below (w3.setCell ⟨w.heap.size,6,none⟩ (.slice a3 t.items.n c3)).heap.size (w3.setCell ⟨w.heap.size,6,none⟩ (.slice a3 t.items.n c3)) ((w3.setCell ⟨w.heap.size,6,none⟩ (.slice a3 t.items.n c3)).alloc (.cells #[] 2)):=(Below.refl _ _).alloc (Nat.le_refl _) _;have l1:=A.lt;have l2:=R.lt;rw[e3]at l1 l2;have rn:∀c:CatL,c.new w.heap.size (w3.setCell ⟨w.heap.size,6,none⟩ (.slice a3 t.items.n c3))→c.new w.heap.size w4:=fun c hc=>(hc.below b4).of g4.size (fun b hb hn=>g4.block b (by obtain⟨b',_,_,e',_,_,hr⟩:=(hc.below b4).2 hn;rw[hb]at e';cases e';exact hr.lt) (fun e=>by
   obtain⟨b',_,_,e',_,_,hr⟩:=hc.2 hn;rw[hb]at e';cases e';have h1:=hr.lt;have h2:=Option.some.inj e;rw[e3]at h1;omega))
  refine⟨(A.below b4).grown g4 (by simp;omega),(R.below b4).grown g4 (by simp;omega),(then_ B b4).trans (below_grown g4 (then_ B b4).size (fun j hj=>by cases hj;omega)),rn d1 k1,rn d2 k2,(k4.below b4).of g4.size (fun b hb hn=>g4.block b (by obtain⟨b',_,_,e',_,_,hr⟩:=(k4.below b4).2 hn;rw[hb]at e';cases e';exact hr.lt) (fun e=>by
   obtain⟨b',_,_,e',_,_,hr⟩:=k4.2 hn;rw[hb]at e';cases e';have h1:=hr.lt;have h2:=Option.some.inj e;rw[e3]at h1;omega)),ownI_newL o4 m4⟩)
 have mk1:True:=trivial;have bb4:Hid (∀W:World,Below W.heap.size W (W.alloc (.cells #[] 2))):=hid (fun W=>(Below.refl _ _).alloc (Nat.le_refl _) _);have ln1:t.items.n≤1048576:=m3.1;clear A2' R2' B2' M1 M2 b3 A2;go_wp2_with(first
  |(have mq:=mk1;clear mk1;refine wpList_append_any Tryz.underlying40 Tryz.info9 rfl (by omega) _ rfl _ _ rfl w.heap.size (.slice (some ⟨w2.heap.size,0,none⟩) 0 0) 0 [] rfl OM.out t.items.a t.items.n t.items.k ((List.range t.items.n).map (fun i=>Value.string (t.items.f i))) rfl (by simp) LM.out (fun u hu=>by obtain⟨y,_,rfl⟩:=List.mem_map.1 hu;rfl) (by omega) (by omega) SZ ?_;intro a3 c3 w3 o3 g3;rw[Nat.zero_add,List.nil_append]at o3;rw[Nat.zero_add];have CAP:=hid (own_cap o3);obtain⟨A3,R3,B3,K1,K2,K4⟩:=F3.out a3 c3 w3 o3 g3;obtain⟨A3',R3',B3',K1',K2',K4'⟩:=AR3.out a3 c3 w3 A3 R3 B3 K1 K2 K4;have HA3:=hid A3';have HR3:=hid R3';have HB3:=hid B3';have HK1:=hid K1';have HK2:=hid K2';have HK4:=hid K4';have OM2:=hid (O3.out a3 c3 w3 B3');have LM2:=hid (LI.out _ (then_ B3' (bb4.out _)));have SZ2:=hid (then_ B3' (bb4.out _)).size;obtain⟨p0,p1,p2,p3,p4,p5,p6,p7,p8,p9⟩:=A3.ten;have pf:=A3.warm;obtain⟨q0,q1,q2,q3,q4,q5,q6,q7,q8,q9⟩:=(A3'.below (bb4.out _)).ten;clear o3 g3 A3 R3 B3 K1 K2 K4 A3' R3' B3' K1' K2' K4' F3 AR3 O3 OM LM)
  |(refine wpList_append_any Tryz.underlying34 Tryz.info2 rfl (by omega) _ rfl _ _ rfl w.heap.size (.slice (some ⟨w3.heap.size,0,none⟩) 0 0) 0 [] rfl OM2.out t.own.a t.own.n t.own.k (((List.range t.own.n).map t.own.h).map (Value.int .i64)) rfl (by simp) LM2.out (fun u hu=>by obtain⟨y,_,rfl⟩:=List.mem_map.1 hu;rfl) (by omega) (by omega) SZ2.out ?_;intro a4 c4 w4 o4 g4;rw[Nat.zero_add,List.nil_append]at o4;rw[Nat.zero_add];obtain⟨A4,R4,B4,K1,K2,K4,K3⟩:=F4.out a3 c3 w3 a4 c4 w4 HA3.out HR3.out HB3.out HK1.out HK2.out HK4.out o4 g4;have HA4:=hid A4;have HR4:=hid R4;have HB4:=hid B4;have J1:=hid K1;have J2:=hid K2;have J3:=hid K3;have J4:=hid K4;obtain⟨u0,u1,u2,u3,u4,u5,u6,u7,u8,u9⟩:=A4.ten;have uf:=A4.warm;have A4':Blk (w4.setCell ⟨w.heap.size,7,none⟩ (.slice a4 t.own.n c4)) w.heap.size (.cells #[.int .i64 t.id,.int .i64 t.kind,.int .i64 t.up,.int .i64 t.b1,.slice d1.a d1.n d1.k,.string t.data,.slice a3 t.items.n c3,.slice a4 t.own.n c4,.int .i64 t.b2,.slice d2.a d2.n d2.k] 42):=A4.setAt (i:=7) _;have R4':Blk (w4.setCell ⟨w.heap.size,7,none⟩ (.slice a4 t.own.n c4)) (w.heap.size+1) (.cells #[.int .i64 0,.int .i64 0,.int .i64 0,.int .i64 0,.slice none 0 0,.string (ByteArray.mk #[]),.slice none 0 0,.slice none 0 0,.int .i64 0,.slice none 0 0] 42):=R4.other (by omega) _;have HR4':=hid R4';obtain⟨v0,v1,v2,v3,v4,v5,v6,v7,v8,v9⟩:=A4'.ten;obtain⟨r0,r1,r2,r3,r4,r5,r6,r7,r8,r9⟩:=R4'.ten;have rf:=R4'.warm;clear o4 g4 A4 R4 B4 K1 K2 K3 K4 A4' R4'))
 refine bodyPost_ret (results46 _ _ (w.heap.size+1) (.int .i64 t.id) (.int .i64 t.kind) (.int .i64 t.up) (.int .i64 t.b1) (.slice d1.a d1.n d1.k) (.string t.data) (.slice a3 t.items.n c3) (.slice a4 t.own.n c4) (.int .i64 t.b2) (.slice d2.a d2.n d2.k) (Blk.all10 HR4'.out _ _ _ _ _ _ _ _ _ _) rfl) rfl ⟨⟨t.id,t.kind,t.up,t.b1,d1,t.data,⟨a3,t.items.n,c3,t.items.f⟩,⟨a4,t.own.n,c4,t.own.h⟩,t.b2,d2⟩,rfl,⟨rfl,rfl,rfl,rfl,S1.out,rfl,⟨rfl,rfl⟩,⟨rfl,rfl⟩,rfl,S2.out⟩,⟨?_,?_,?_,?_⟩,CAP.out,?_⟩
 ·refine J1.out.of (by simp) (fun g hg hn'=>?_);have q1:=J1.out.ne HA4.out (by decide) g hg hn';have q2:=J1.out.ne HR4.out (by decide) g hg hn';iterate 11 rw[blk_setCell_other _ _ _ _ (by dsimp only;omega)]
 ·refine J4.out.of (by simp) (fun g hg hn'=>?_);have q1:=J4.out.ne HA4.out (by decide) g hg hn';have q2:=J4.out.ne HR4.out (by decide) g hg hn';iterate 11 rw[blk_setCell_other _ _ _ _ (by dsimp only;omega)]
 ·refine J3.out.of (by simp) (fun g hg hn'=>?_);have q1:=J3.out.ne HA4.out (by decide) g hg hn';have q2:=J3.out.ne HR4.out (by decide) g hg hn';iterate 11 rw[blk_setCell_other _ _ _ _ (by dsimp only;omega)]
 ·refine J2.out.of (by simp) (fun g hg hn'=>?_);have q1:=J2.out.ne HA4.out (by decide) g hg hn';have q2:=J2.out.ne HR4.out (by decide) g hg hn';iterate 11 rw[blk_setCell_other _ _ _ _ (by dsimp only;omega)]
 ·iterate 11 refine Below.setCell ?_ (by dsimp only;omega) _
  exact HB4.out
structure KeepsK(w w':World):Prop where
 size:w.heap.size≤w'.heap.size
 block:∀(k:Nat) (cs:Array Value) (t:TypeId),w.heap[k]? =some (Obj.cells cs t (0,0))→t≠75→t≠42→w'.heap[k]? =w.heap[k]?
theorem KeepsK.blk{w w':World}{P t:Nat}{cs:Array Value}(h:KeepsK w w')(hb:Blk w P (.cells cs t))(h1:t≠75)(h2:t≠42):Blk w' P (.cells cs t):=(h.block P cs t hb h1 h2).trans hb
theorem KeepsK.of_below{w w':World}(h:Below w.heap.size w w'):KeepsK w w':=⟨h.size,fun k _ _ hk _ _=>h.block k (Array.getElem?_eq_some_iff.1 hk).1⟩
theorem keep_row{w:World}{b ty m:Nat}{F:Nat→Value}(hr:w.rowIs b ty m F):∃cs,w.heap[b]? =some (.cells cs ty (0,0)):=by
 obtain⟨c,h1,_⟩:=hr;exact⟨c,h1⟩
theorem IntL.new.over{B:Nat}{w w':World}{c:IntL}(h:c.new B w)(hs:w.heap.size≤w'.heap.size)(hb:∀b m F,w.rowIs b 2 m F→w'.heap[b]? =w.heap[b]?):c.new B w':=h.of hs (fun b e hn=>by
 obtain⟨b',m,F,e',_,_,hr⟩:=h.2 hn;rw[e]at e';cases e';exact hb b m F hr)
theorem StrL.new.over{B:Nat}{w w':World}{c:StrL}(h:c.new B w)(hs:w.heap.size≤w'.heap.size)(hb:∀b m F,w.rowIs b 9 m F→w'.heap[b]? =w.heap[b]?):c.new B w':=h.of hs (fun b e hn=>by
 obtain⟨b',m,F,e',_,_,hr⟩:=h.2 hn;rw[e]at e';cases e';exact hb b m F hr)
structure KeepsL(w w':World):Prop where
 size:w.heap.size≤w'.heap.size
 block:∀(k:Nat) (cs:Array Value) (t:TypeId),w.heap[k]? =some (Obj.cells cs t (0,0))→t=88∨t=2∨t=9→w'.heap[k]? =w.heap[k]?
theorem KeepsK.l{w w':World}(h:KeepsK w w'):KeepsL w w':=⟨h.size,fun k cs t hk ht=>h.block k cs t hk (by rcases ht with rfl|rfl|rfl<;>decide) (by rcases ht with rfl|rfl|rfl<;>decide)⟩
theorem CatL.new.keeps{B:Nat}{w w':World}{c:CatL}(h:c.new B w)(k:KeepsL w w'):c.new B w':=h.over k.size (fun b m F hr=>by obtain⟨cs,hh⟩:=keep_row hr;exact k.block b cs _ hh (.inl rfl))
theorem IntL.new.keeps{B:Nat}{w w':World}{c:IntL}(h:c.new B w)(k:KeepsL w w'):c.new B w':=h.over k.size (fun b m F hr=>by obtain⟨cs,hh⟩:=keep_row hr;exact k.block b cs _ hh (.inr (.inl rfl)))
theorem StrL.new.keeps{B:Nat}{w w':World}{c:StrL}(h:c.new B w)(k:KeepsL w w'):c.new B w':=h.over k.size (fun b m F hr=>by obtain⟨cs,hh⟩:=keep_row hr;exact k.block b cs _ hh (.inr (.inr rfl)))
theorem ThrV.new.keeps{B:Nat}{w w':World}{t:ThrV}(h:t.new B w)(k:KeepsL w w'):t.new B w':=⟨h.1.keeps k,h.2.1.keeps k,h.2.2.keeps k⟩
theorem ObjV.new.keeps{B:Nat}{w w':World}{t:ObjV}(h:t.new B w)(k:KeepsL w w'):t.new B w':=⟨h.1.keeps k,h.2.1.keeps k,h.2.2.1.keeps k,h.2.2.2.keeps k⟩
theorem ThrV.new.low{B B':Nat}{w:World}{t:ThrV}(h:t.new B w)(hB:B'≤B):t.new B' w:=⟨h.1.low hB,h.2.1.low hB,h.2.2.low hB⟩
theorem ObjV.new.low{B B':Nat}{w:World}{t:ObjV}(h:t.new B w)(hB:B'≤B):t.new B' w:=⟨h.1.low hB,h.2.1.low hB,h.2.2.1.low hB,h.2.2.2.low hB⟩
theorem keeps_set{w:World}{P i t:Nat}{cs:Array Value}(hb:Blk w P (.cells cs t))(ht:t≠88∧t≠2∧t≠9)(v:Value):KeepsL w (w.setCell ⟨P,i,none⟩ v):=by
 refine⟨by rw[nblk_setCell];exact Nat.le_refl _,fun k ck tk hk hh=>blk_setCell_other _ _ _ _ (fun e=>?_)⟩;dsimp only at e;unfold Blk at hb;rw[e]at hk;rw[hk]at hb;simp only[Option.some.injEq,Obj.cells.injEq,and_true]at hb;rcases hh with h|h|h
 ·exact ht.1 (hb.2.symm.trans h)
 ·exact ht.2.1 (hb.2.symm.trans h)
 ·exact ht.2.2 (hb.2.symm.trans h)
theorem OwnT.set{w:World}{B P i t:Nat}{v:Value}{l:List ThrV}{cs:Array Value}(h:OwnT w B v l)(hb:Blk w P (.cells cs t))(ht:t≠75)(u:Value):OwnT (w.setCell ⟨P,i,none⟩ u) B v l:=by
 refine⟨h.1,?_⟩;rcases h.2 with hn|⟨g,cap,cur,hv,hbg,hg,rest⟩
 ·exact .inl hn
 ·refine .inr ⟨g,cap,cur,hv,hbg,?_,rest⟩;have hh:Blk w g (.cells cur 75):=hg;refine hh.other (fun e=>?_) u;unfold Blk at hb hh;rw[e,hh]at hb;simp only[Option.some.injEq,Obj.cells.injEq,and_true]at hb;exact ht hb.2.symm
theorem OwnOb.set{w:World}{B P i t:Nat}{v:Value}{l:List ObjV}{cs:Array Value}(h:OwnOb w B v l)(hb:Blk w P (.cells cs t))(ht:t≠42)(u:Value):OwnOb (w.setCell ⟨P,i,none⟩ u) B v l:=by
 refine⟨h.1,?_⟩;rcases h.2 with hn|⟨g,cap,cur,hv,hbg,hg,rest⟩
 ·exact .inl hn
 ·refine .inr ⟨g,cap,cur,hv,hbg,?_,rest⟩;have hh:Blk w g (.cells cur 42):=hg;refine hh.other (fun e=>?_) u;unfold Blk at hb hh;rw[e,hh]at hb;simp only[Option.some.injEq,Obj.cells.injEq,and_true]at hb;exact ht hb.2.symm
structure KSt(w:World)(B:Nat)(vt vo:Value)(lt:List ThrV)(lo:List ObjV):Prop where
 t:OwnT w B vt lt
 o:OwnOb w B vo lo
 tn:∀x∈lt,x.new B w
 on:∀x∈lo,x.new B w
 tc:∀x∈lt,x.own.n≤x.own.k∧x.own.k≤maxLen
 oc:∀x∈lo,x.items.n≤x.items.k∧x.items.k≤maxLen
theorem KSt.below{w w':World}{B:Nat}{vt vo:Value}{lt:List ThrV}{lo:List ObjV}(h:KSt w B vt vo lt lo)(hb:Below w.heap.size w w'):KSt w' B vt vo lt lo:=
 ⟨h.t.below hb,h.o.below hb,fun x hx=>(h.tn x hx).keeps (KeepsK.of_below hb).l,fun x hx=>(h.on x hx).keeps (KeepsK.of_below hb).l,h.tc,h.oc⟩
theorem KSt.base{w:World}{B B':Nat}{vt vo:Value}{lt:List ThrV}{lo:List ObjV}(h:KSt w B vt vo lt lo)(hB:B'≤B):KSt w B' vt vo lt lo:=⟨h.t.base hB,h.o.base hB,fun x hx=>(h.tn x hx).low hB,fun x hx=>(h.on x hx).low hB,h.tc,h.oc⟩
theorem KSt.set{w:World}{B P i t:Nat}{vt vo:Value}{lt:List ThrV}{lo:List ObjV}{cs:Array Value}(h:KSt w B vt vo lt lo)(hb:Blk w P (.cells cs t))(ht:t=27∨t=46)(u:Value):KSt (w.setCell ⟨P,i,none⟩ u) B vt vo lt lo:=by
 have k:=keeps_set (i:=i) hb (by rcases ht with rfl|rfl<;>decide) u;exact⟨h.t.set hb (by rcases ht with rfl|rfl<;>decide) u,h.o.set hb (by rcases ht with rfl|rfl<;>decide) u,fun x hx=>(h.tn x hx).keeps k,fun x hx=>(h.on x hx).keeps k,h.tc,h.oc⟩
theorem ThrV.new.at{B:Nat}{w:World}{t:ThrV}(h:t.new B w):t.at w:=⟨h.1.1,h.2.1.1,h.2.2.1⟩
def kOf(ta:Option Addr)(ca:Nat)(oa:Option Addr)(co:Nat)(lt:List ThrV)(lo:List ObjV):KerV:=⟨ta,lt.length,ca,atOwnT lt,oa,lo.length,co,atOwnOb lo⟩
theorem KSt.at{w:World}{B ca co:Nat}{ta oa:Option Addr}{lt:List ThrV}{lo:List ObjV}(h:KSt w B (.slice ta lt.length ca) (.slice oa lo.length co) lt lo)(h1:lt.length≤1048576)(h2:lo.length≤1048576)(h3:∀x∈lo,x.data.size≤maxLen):(kOf ta ca oa co lt lo).at w:=
 ⟨Nat.le_trans h1 (by unfold maxLen;omega),Nat.le_trans h2 (by unfold maxLen;omega),h.t.lies (fun x hx=>(h.tn x hx).at),h.o.lies (fun x hx=>⟨(h.on x hx).1.1,(h.on x hx).2.1.1,(h.on x hx).2.2.1.1,(h.on x hx).2.2.2.1,h3 x hx⟩)⟩
theorem KSt.addT{w w':World}{B:Nat}{vt vo vt':Value}{lt:List ThrV}{lo:List ObjV}{x:ThrV}(h:KSt w B vt vo lt lo)(ho:OwnT w' B vt' (lt++[x]))(hg:w.grownBy w' vt.ownBlock)(hx:x.new B w)(hc:x.own.n≤x.own.k∧x.own.k≤maxLen):KSt w' B vt' vo (lt++[x]) lo∧KeepsK w w':=by
 have kk:KeepsK w w':=⟨hg.size,fun k cs t hk h1 _=>hg.block k (Array.getElem?_eq_some_iff.1 hk).1 (fun e=>by
  rcases h.t.2 with⟨hv,_⟩|⟨g,cap,cur,hv,_,hgg,_⟩
  ·rw[hv]at e;cases e
  ·rw[hv]at e;cases e;rw[hgg]at hk;simp only[Option.some.injEq,Obj.cells.injEq,and_true]at hk;exact h1 hk.2.symm)⟩
 refine⟨⟨ho,?_,fun y hy=>?_,fun y hy=>(h.on y hy).keeps kk.l,fun y hy=>?_,h.oc⟩,kk⟩
 ·refine⟨h.o.1,?_⟩;rcases h.o.2 with hn|⟨g,cap,cur,hv,hbg,hgg,rest⟩
  ·exact .inl hn
  ·refine .inr ⟨g,cap,cur,hv,hbg,?_,rest⟩;refine(hg.block g (Array.getElem?_eq_some_iff.1 hgg).1 (fun e=>?_)).trans hgg;rcases h.t.2 with⟨hv,_⟩|⟨g',cap',cur',hv',_,hgg',_⟩
   ·rw[hv]at e;cases e
   ·rw[hv']at e;cases e;rw[hgg']at hgg;simp at hgg
 ·rcases List.mem_append.1 hy with hy|hy
  ·exact(h.tn y hy).keeps kk.l
  ·rw[List.mem_singleton.1 hy];exact hx.keeps kk.l
 ·rcases List.mem_append.1 hy with hy|hy
  ·exact h.tc y hy
  ·rw[List.mem_singleton.1 hy];exact hc
theorem KSt.addO{w w':World}{B:Nat}{vt vo vo':Value}{lt:List ThrV}{lo:List ObjV}{x:ObjV}(h:KSt w B vt vo lt lo)(ho:OwnOb w' B vo' (lo++[x]))(hg:w.grownBy w' vo.ownBlock)(hx:x.new B w)(hc:x.items.n≤x.items.k∧x.items.k≤maxLen):KSt w' B vt vo' lt (lo++[x])∧KeepsK w w':=by
 have kk:KeepsK w w':=⟨hg.size,fun k cs t hk _ h1=>hg.block k (Array.getElem?_eq_some_iff.1 hk).1 (fun e=>by
  rcases h.o.2 with⟨hv,_⟩|⟨g,cap,cur,hv,_,hgg,_⟩
  ·rw[hv]at e;cases e
  ·rw[hv]at e;cases e;rw[hgg]at hk;simp only[Option.some.injEq,Obj.cells.injEq,and_true]at hk;exact h1 hk.2.symm)⟩
 refine⟨⟨?_,ho,fun y hy=>(h.tn y hy).keeps kk.l,fun y hy=>?_,h.tc,fun y hy=>?_⟩,kk⟩
 ·refine⟨h.t.1,?_⟩;rcases h.t.2 with hn|⟨g,cap,cur,hv,hbg,hgg,rest⟩
  ·exact .inl hn
  ·refine .inr ⟨g,cap,cur,hv,hbg,?_,rest⟩;refine(hg.block g (Array.getElem?_eq_some_iff.1 hgg).1 (fun e=>?_)).trans hgg;rcases h.o.2 with⟨hv,_⟩|⟨g',cap',cur',hv',_,hgg',_⟩
   ·rw[hv]at e;cases e
   ·rw[hv']at e;cases e;rw[hgg']at hgg;simp at hgg
 ·rcases List.mem_append.1 hy with hy|hy
  ·exact(h.on y hy).keeps kk.l
  ·rw[List.mem_singleton.1 hy];exact hx.keeps kk.l
 ·rcases List.mem_append.1 hy with hy|hy
  ·exact h.oc y hy
  ·rw[List.mem_singleton.1 hy];exact hc
end Go.Proofs.YtbacmamplkdgaaaGreatDoor
