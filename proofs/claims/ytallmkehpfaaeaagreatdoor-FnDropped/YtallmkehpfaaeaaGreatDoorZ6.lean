import Derived.Test.YtallmkehpfaaeaaGreatDoorZ0
import Derived.Test.YtallmkehpfaaeaaGreatDoorZ5
import Derived.Test.YtallmkehpfaaeaaGreatDoorZ4
import Derived.Test.YtallmkehpfaaeaaGreatDoorZ3
set_option maxRecDepth 100000
set_option maxHeartbeats 8000000
namespace Go.Proofs.YtallmkehpfaaeaaGreatDoor
open Go Go.RowKit Go.Deep Go.Maps Go.BigFrame Go.Shelf
def ObjV.new(B:Nat)(w:World)(t:ObjV):Prop:=t.c1.new B w∧t.items.new B w∧t.own.new B w∧t.c2.new B w
def ObjV.apart(t:ObjV):Prop:=∀b b',t.c1.a=some ⟨b,0,none⟩→0<t.c1.n→t.c2.a=some ⟨b',0,none⟩→0<t.c2.n→b≠b'
theorem results48(tmps:Array Value)(W:World)(P:Nat)(x0 x1 x2 x3 x4 x5 x6 x7 x8 x9:Value)(h:Blk W P (.cells #[x0,x1,x2,x3,x4,x5,x6,x7,x8,x9] 47))(h2:tmps[2]? =some (.pointer (some ⟨P,0,none⟩))):
 (results Tryz.f53 tmps).run Tryz.prog W= .ok (.agg #[x0,x1,x2,x3,x4,x5,x6,x7,x8,x9]) W:=by
 obtain⟨z0,z1,z2,z3,z4,z5,z6,z7,z8,z9⟩:=h.ten;simp[results,Tryz.results53,go_sem,h2,z0,z1,z2,z3,z4,z5,z6,z7,z8,z9]
def zeroBlk:Obj:= .cells #[.int .i64 0,.int .i64 0,.int .i64 0,.int .i64 0,.slice none 0 0,.string (ByteArray.mk #[]),.slice none 0 0,.slice none 0 0,.int .i64 0,.slice none 0 0] 47
theorem copiedObject_any(t:ObjV)(w:World)(ht:t.at w)(hs:t.small):
 Calls Tryz.prog 53 #[t.val] w fun e w'=>∃u:ObjV,e= .returned u.val∧t.same u∧u.new w.heap.size w'∧u.apart∧Below w.heap.size w w':=by
 have EG:∀args w,(callFunc 92 args).run Tryz.prog w= .ok (.enter 92 args) w:=enters_of Tryz.func92 (by kernel_rfl) rfl;have EH:∀args w,(callFunc 93 args).run Tryz.prog w= .ok (.enter 93 args) w:=enters_of Tryz.func93 (by kernel_rfl) rfl;have EI:∀args w,(callFunc 94 args).run Tryz.prog w= .ok (.enter 94 args) w:=enters_of Tryz.func94 (by kernel_rfl) rfl;have b0:Below w.heap.size w ((w.alloc t.blk).alloc zeroBlk):=((Below.refl _ w).alloc (Nat.le_refl _) _).alloc (by simp) _;have A0:=(Blk.new w t.blk).alloc zeroBlk;have R0:Blk ((w.alloc t.blk).alloc zeroBlk) (w.heap.size+1) zeroBlk:=by
  have:=Blk.new (w.alloc t.blk) zeroBlk;simpa using this
 have T0:=hid (ht.below b0);unfold ObjV.blk zeroBlk at b0 A0 R0 T0;unfold ObjV.val;obtain⟨x0,x1,x2,x3,x4,x5,x6,x7,x8,x9⟩:=A0.ten;obtain⟨m1,m2,m3,m4,m5⟩:=hs;clear ht;go_enter Tryz.func53,Tryz.ntmps53
 go_wp2;have n5:No (.cells #[.int .i64 t.id,.int .i64 t.kind,.int .i64 t.up,.int .i64 t.b1,t.c1.val,.string t.data,t.items.val,t.own.val,.int .i64 t.b2,t.c2.val] 47):=⟨⟩;generalize hV:((w.alloc n5).alloc (.cells #[.int .i64 0,.int .i64 0,.int .i64 0,.int .i64 0,.slice none 0 0,.string (ByteArray.mk #[]),.slice none 0 0,.slice none 0 0,.int .i64 0,.slice none 0 0] 47))=V at *;have B0:=hid b0;have A0':=hid A0;have R0':=hid R0;have PA:Hid (∀W,Below V.heap.size V W→Calls Tryz.prog 92 #[.agg #[.int .i64 t.b1,t.c1.val]] W fun e w'=>∃v,e= .returned v∧∃d:CatL,v= .agg #[.int .i64 t.b1,d.val]∧t.c1.same d∧d.new W.heap.size w'∧Below W.heap.size W w'):=hid (fun W hW=>(copiedLabel_any t.b1 t.c1 W (T0.out.below hW).1 m1).mono fun e w' ⟨d,h1,h2,h3,h4⟩=>⟨_,h1,d,rfl,h2,h3,h4⟩);have PB:Hid (∀W,Below V.heap.size V W→Calls Tryz.prog 92 #[.agg #[.int .i64 t.b2,t.c2.val]] W fun e w'=>∃v,e= .returned v∧∃d:CatL,v= .agg #[.int .i64 t.b2,d.val]∧t.c2.same d∧d.new W.heap.size w'∧Below W.heap.size W w'):=hid (fun W hW=>(copiedLabel_any t.b2 t.c2 W (T0.out.below hW).2.2.2.1 m5).mono fun e w' ⟨d,h1,h2,h3,h4⟩=>⟨_,h1,d,rfl,h2,h3,h4⟩);have PC:Hid (∀W,Below V.heap.size V W→Calls Tryz.prog 93 #[t.own.val] W fun e w'=>∃v,e= .returned v∧∃d:IntL,v=d.val∧t.own.same d∧d.new W.heap.size w'∧Below W.heap.size W w'):=hid (fun W hW=>(copiedInt_any t.own W (T0.out.below hW).2.2.1 m4).mono fun e w' ⟨d,h1,h2,h3,h4⟩=>⟨_,h1,d,rfl,h2,h3,h4⟩);have PD:Hid (∀W,Below V.heap.size V W→Calls Tryz.prog 94 #[t.items.val] W fun e w'=>∃v,e= .returned v∧∃d:StrL,v=d.val∧t.items.same d∧d.new W.heap.size w'∧Below W.heap.size W w'):=hid (fun W hW=>(copiedStr_any t.items W (T0.out.below hW).2.1 m3.1).mono fun e w' ⟨d,h1,h2,h3,h4⟩=>⟨_,h1,d,rfl,h2,h3,h4⟩);have V0:Hid (Below V.heap.size V V.drew):=hid (Below.refl _ V).drew;have Ad:Hid (Blk V.drew w.heap.size n5):=hid A0;clear hV b0 A0 R0;have HS0:Blk V.drew w.heap.size n5:=Ad.out;refine wp_region_G 13 (fun W=>Blk W w.heap.size n5) (by kernel_rfl) ?_;have HS1:(fun W=>Blk W w.heap.size n5) V.drew:=HS0;clear HS0;have n6:Nv (.pointer (some ⟨w.heap.size,3,none⟩)):=⟨⟩;refine wpAnyG_takeD (i:=0) (d:=3) n6 rfl rfl (by kernel_rfl) (by kernel_rfl) (by kernel_rfl) (by kernel_rfl) (by kernel_rfl) (by kernel_rfl) (fun _ _ _ h=>h) (Or.inl ⟨by rfl,fun W hSw=>by go_simp⟩) HS1 ?_;simp only[ap,List.set];refine wpAnyG_takeD (i:=1) (d:=4) (.agg #[.int .i64 t.b1,t.c1.val]) rfl rfl (by kernel_rfl) (by kernel_rfl) (by kernel_rfl) (by kernel_rfl) (by kernel_rfl) (by kernel_rfl) (fun _ _ _ h=>h) (Or.inl ⟨by rfl,fun W hSw=>by obtain⟨q0,q1,q2,q3,q4,q5,q6,q7,q8,q9⟩:=Blk.ten hSw;go_simp⟩) HS1 ?_;simp only[ap,List.set];refine wpAnyG_takeD (i:=3) (d:=6) (.pointer (some ⟨w.heap.size,8,none⟩)) rfl rfl (by kernel_rfl) (by kernel_rfl) (by kernel_rfl) (by kernel_rfl) (by kernel_rfl) (by kernel_rfl) (fun _ _ _ h=>h) (Or.inl ⟨by rfl,fun W hSw=>by go_simp⟩) HS1 ?_;simp only[ap,List.set];refine wpAnyG_takeD (i:=4) (d:=7) (.agg #[.int .i64 t.b2,t.c2.val]) rfl rfl (by kernel_rfl) (by kernel_rfl) (by kernel_rfl) (by kernel_rfl) (by kernel_rfl) (by kernel_rfl) (fun _ _ _ h=>h) (Or.inl ⟨by rfl,fun W hSw=>by obtain⟨q0,q1,q2,q3,q4,q5,q6,q7,q8,q9⟩:=Blk.ten hSw;go_simp⟩) HS1 ?_;simp only[ap,List.set];refine wpAnyG_takeD (i:=6) (d:=9) (.pointer (some ⟨w.heap.size,7,none⟩)) rfl rfl (by kernel_rfl) (by kernel_rfl) (by kernel_rfl) (by kernel_rfl) (by kernel_rfl) (by kernel_rfl) (fun _ _ _ h=>h) (Or.inl ⟨by rfl,fun W hSw=>by go_simp⟩) HS1 ?_;simp only[ap,List.set];refine wpAnyG_takeD (i:=7) (d:=10) (t.own.val) rfl rfl (by kernel_rfl) (by kernel_rfl) (by kernel_rfl) (by kernel_rfl) (by kernel_rfl) (by kernel_rfl) (fun _ _ _ h=>h) (Or.inl ⟨by rfl,fun W hSw=>by obtain⟨q0,q1,q2,q3,q4,q5,q6,q7,q8,q9⟩:=Blk.ten hSw;go_simp⟩) HS1 ?_;simp only[ap,List.set];refine wpAnyG_takeD (i:=9) (d:=12) (.pointer (some ⟨w.heap.size,6,none⟩)) rfl rfl (by kernel_rfl) (by kernel_rfl) (by kernel_rfl) (by kernel_rfl) (by kernel_rfl) (by kernel_rfl) (fun _ _ _ h=>h) (Or.inl ⟨by rfl,fun W hSw=>by go_simp⟩) HS1 ?_;simp only[ap,List.set];refine wpAnyG_takeD (i:=10) (d:=13) (t.items.val) rfl rfl (by kernel_rfl) (by kernel_rfl) (by kernel_rfl) (by kernel_rfl) (by kernel_rfl) (by kernel_rfl) (fun _ _ _ h=>h) (Or.inl ⟨by rfl,fun W hSw=>by obtain⟨q0,q1,q2,q3,q4,q5,q6,q7,q8,q9⟩:=Blk.ten hSw;go_simp⟩) HS1 ?_;simp only[ap,List.set];refine wpAnyG_one (i:=2) (by kernel_rfl) rfl ?_;intro K hK;refine step_call1g (by rfl) 92 _ _ (by rfl) EG _ (by rfl) (some 5) (by rfl) _ (PA.out _ V0.out) ?_;rintro v w1 ⟨d1,rfl,s1,n1,h1⟩;refine hK.out _ _ (fun _=>Blk.below HS1 h1) ?_;have V1:=hid (then_ V0.out h1);have HS2:(fun W=>Blk W w.heap.size n5) w1:=Blk.below HS1 h1;clear hK K HS1;try simp only[ap,List.set]
 refine wpAnyG_takeD (i:=12) (d:=15) n6 rfl rfl (by kernel_rfl) (by kernel_rfl) (by kernel_rfl) (by kernel_rfl) (by kernel_rfl) (by kernel_rfl) (fun _ _ _ h=>h) (Or.inl ⟨by rfl,fun W hSw=>by go_simp⟩) HS2 ?_;simp only[ap,List.set];refine wpAnyG_one (i:=5) (by kernel_rfl) rfl ?_;intro K hK;refine step_call1g (by rfl) 92 _ _ (by rfl) EG _ (by rfl) (some 8) (by rfl) _ (PB.out _ V1.out) ?_;rintro v w2 ⟨d2,rfl,s2,n2,h2⟩;refine hK.out _ _ (fun _=>Blk.below HS2 h2) ?_;have V2:=hid (then_ V1.out h2);have HS3:(fun W=>Blk W w.heap.size n5) w2:=Blk.below HS2 h2;clear hK K HS2;try simp only[ap,List.set]
 refine wpAnyG_one (i:=8) (by kernel_rfl) rfl ?_;intro K hK;refine step_call1g (by rfl) 93 _ _ (by rfl) EH _ (by rfl) (some 11) (by rfl) _ (PC.out _ V2.out) ?_;rintro v w3 ⟨d3,rfl,s3,n3,h3⟩;refine hK.out _ _ (fun _=>Blk.below HS3 h3) ?_;have V3:=hid (then_ V2.out h3);have HS4:(fun W=>Blk W w.heap.size n5) w3:=Blk.below HS3 h3;clear hK K HS3;try simp only[ap,List.set]
 refine wpAnyG_one (i:=11) (by kernel_rfl) rfl ?_;intro K hK;refine step_call1g (by rfl) 94 _ _ (by rfl) EI _ (by rfl) (some 14) (by rfl) _ (PD.out _ V3.out) ?_;rintro v w4 ⟨d4,rfl,s4,n4,h4⟩;refine hK.out _ _ (fun _=>Blk.below HS4 h4) ?_;have V4:=hid (then_ V3.out h4);have HS5:(fun W=>Blk W w.heap.size n5) w4:=Blk.below HS4 h4;clear hK K HS4;try simp only[ap,List.set]
 unfold CatL.val IntL.val StrL.val;obtain⟨g0,g1,g2,g3,g4,g5,g6,g7,g8,g9⟩:=Blk.ten HS5;have gf:=Blk.warm HS5;simp only[CatL.val,IntL.val,StrL.val]at g4 g6 g7 g9;refine wpAnyG_one (i:=13) (by kernel_rfl) rfl ?_;intro K hK;go_simp;refine hK.out _ _ (fun h=>absurd h (by decide)) ?_;clear hK K;try simp only[ap,List.set]
 refine wpAnyG_one (i:=14) (by kernel_rfl) rfl ?_;intro K hK;go_simp;refine hK.out _ _ (fun h=>absurd h (by decide)) ?_;clear hK K;try simp only[ap,List.set]
 refine wpAnyG_one (i:=15) (by kernel_rfl) rfl ?_;intro K hK;go_simp;refine hK.out _ _ (fun h=>absurd h (by decide)) ?_;clear hK K;try simp only[ap,List.set]
 refine wpAnyG_one (i:=16) (by kernel_rfl) rfl ?_;intro K hK;go_simp;refine hK.out _ _ (fun h=>absurd h (by decide)) ?_;clear hK K;try simp only[ap,List.set]
 refine wpAnyG_one (i:=17) (by kernel_rfl) rfl ?_;intro K hK;go_simp;refine hK.out _ _ (fun h=>absurd h (by decide)) ?_;clear hK K;try simp only[ap,List.set]
 refine wpAnyG_one (i:=18) (by kernel_rfl) rfl ?_;intro K hK;go_simp;refine hK.out _ _ (fun h=>absurd h (by decide)) ?_;clear hK K;try simp only[ap,List.set]
 refine wpAnyG_one (i:=19) (by kernel_rfl) rfl ?_;intro K hK;go_simp;refine hK.out _ _ (fun h=>absurd h (by decide)) ?_;clear hK K;try simp only[ap,List.set]
 refine wpAnyG_done (by kernel_rfl) ?_ _;have A3:=hid HS5;have R3:Hid (Blk w4 (w.heap.size+1) _):=hid (R0'.out.below V4.out);have N1:=hid (((n1.below h2).below h3).below h4);have N2:=hid ((n2.below h3).below h4);have N3:=hid (n3.below h4);have N4:=hid n4;have S1:=hid s1;have S2:=hid s2;have S3:=hid s3;have S4:=hid s4;have AP:Hid (∀b b',d1.a=some ⟨b,0,none⟩→0<d1.n→d2.a=some ⟨b',0,none⟩→0<d2.n→b≠b'):=hid (fun b b' e1 p1 e2 p2=>by
  obtain⟨c,_,_,q1,_,_,q2⟩:=n1.2 p1;obtain⟨c',_,_,q3,q4,_⟩:=n2.2 p2;rw[e1]at q1;rw[e2]at q3;cases q1;cases q3;have:=q2.lt;omega)
 have B3:=hid (then_ B0.out V4.out);have L0:=hid (show w.heap.size≤V.drew.heap.size from B0.out.size);have L1:=hid (Nat.le_trans L0.out h1.size);have L2:=hid (Nat.le_trans L1.out h2.size);have L3:=hid (Nat.le_trans L2.out h3.size);obtain⟨r0,r1,r2,r3,r4,r5,r6,r7,r8,r9⟩:=R3.out.ten;have rf:=R3.out.warm;have ne1:¬w.heap.size+1=w.heap.size:=by omega
 have ne2:¬w.heap.size=w.heap.size+1:=by omega
 clear h1 h2 h3 h4 n1 n2 n3 n4 s1 s2 s3 s4 x0 x1 x2 x3 x4 x5 x6 x7 x8 x9 PA PB PC PD EG EH EI V0 V1 V2 V3 V4 Ad HS5;go_wp2;refine bodyPost_ret (results48 _ _ (w.heap.size+1) (.int .i64 t.id) (.int .i64 t.kind) (.int .i64 t.up) (.int .i64 t.b1) (.slice d1.a d1.n d1.k) (.string t.data) (.slice d4.a d4.n d4.k) (.slice d3.a d3.n d3.k) (.int .i64 t.b2) (.slice d2.a d2.n d2.k) (Blk.all10 ((((((R3.out.other (by omega) _).other (by omega) _).other (by omega) _).other (by omega) _).other (by omega) _).other (by omega) _) _ _ _ _ _ _ _ _ _ _) rfl) rfl ⟨⟨t.id,t.kind,t.up,t.b1,d1,t.data,d4,d3,t.b2,d2⟩,rfl,⟨rfl,rfl,rfl,rfl,S1.out,rfl,S4.out,S3.out,rfl,S2.out⟩,⟨?_,?_,?_,?_⟩,AP.out,?_⟩
 ·refine(N1.out.low L0.out).of (by simp) (fun g hg hn'=>?_);have q1:=N1.out.ne A3.out (by decide) g hg hn';have q2:=N1.out.ne R3.out (by decide) g hg hn';iterate 16 rw[blk_setCell_other _ _ _ _ (by dsimp only;omega)]
 ·refine(N4.out.low L3.out).of (by simp) (fun g hg hn'=>?_);have q1:=N4.out.ne A3.out (by decide) g hg hn';have q2:=N4.out.ne R3.out (by decide) g hg hn';iterate 16 rw[blk_setCell_other _ _ _ _ (by dsimp only;omega)]
 ·refine(N3.out.low L2.out).of (by simp) (fun g hg hn'=>?_);have q1:=N3.out.ne A3.out (by decide) g hg hn';have q2:=N3.out.ne R3.out (by decide) g hg hn';iterate 16 rw[blk_setCell_other _ _ _ _ (by dsimp only;omega)]
 ·refine(N2.out.low L1.out).of (by simp) (fun g hg hn'=>?_);have q1:=N2.out.ne A3.out (by decide) g hg hn';have q2:=N2.out.ne R3.out (by decide) g hg hn';iterate 16 rw[blk_setCell_other _ _ _ _ (by dsimp only;omega)]
 ·iterate 16 refine Below.setCell ?_ (by dsimp only;omega) _
  exact B3.out
def walkFn(N:Nat):Value:= .func (.func 100) #[] #[.pointer (some ⟨N+1,0,none⟩),.pointer (some ⟨N,0,none⟩),.pointer (some ⟨N+1+1,0,none⟩)]
structure Walk(w0:World)(c:Nat)(w:World)(v:Value)(l:List Int):Prop where
 b:Below w0.heap.size w0 w
 q:Blk w w0.heap.size (.cells #[.map (some c)] 88)
 p:Blk w (w0.heap.size+1) (.cells #[v] 40)
 r:Blk w (w0.heap.size+1+1) (.cells #[walkFn w0.heap.size] 150)
 o:OwnI w (w0.heap.size+1+1+1) v l
theorem Blk.grown{w w':World}{P:Nat}{o:Obj}{row:Option Nat}(h:Blk w P o)(hg:w.grownBy w' row)(hne:some P≠row):Blk w' P o:=(hg.block P h.lt hne).trans h
theorem Walk.push{w0 w w':World}{c:Nat}{v v':Value}{l:List Int}{x:Int}(h:Walk w0 c w v l)(ho:OwnI w' (w0.heap.size+1+1+1) v' (l++[x]))(hg:(w.alloc (.cells #[.int .i64 x] 2)).grownBy w' v.ownBlock):
 Walk w0 c (w'.setCell ⟨w0.heap.size+1,0,none⟩ v') v' (l++[x]):=by
 have b1:Below w.heap.size w (w.alloc (.cells #[.int .i64 x] 2)):=(Below.refl _ w).alloc (Nat.le_refl _) _;have hne:∀k,k<w0.heap.size+1+1+1→some k≠v.ownBlock:=fun k hk e=>by have:=(World.ownsRow.lt h.o k e.symm).1;omega
 have p1:=(h.p.below b1).grown hg (hne _ (by omega));have q1:=(h.q.below b1).grown hg (hne _ (by omega));have r1:=(h.r.below b1).grown hg (hne _ (by omega));refine⟨?_,q1.other (by omega) _,?_,r1.other (by omega) _,?_⟩
 ·exact((h.b.trans (b1.mono h.b.size)).trans (below_grown hg (by have:=h.q.lt;simp;omega) (fun j hj=>by have:=(World.ownsRow.lt h.o j hj).1;omega))).setCell (by dsimp only;omega) _
 ·simpa using p1.setAt (i:=0) v'
 ·exact World.ownsRow.kept ho (row:=some (w0.heap.size+1)) ⟨rfl,rfl,rfl,by rw[nblk_setCell];exact Nat.le_refl _,fun j hj hne=>blk_setCell_other _ _ _ _ (by dsimp only;intro e;exact hne (by rw[e]))⟩ (.inr (fun e=>by have:=(World.ownsRow.lt ho _ e).1;omega))
theorem kidsTo_map(ids ups:Nat→Int)(n i:Nat):kidsTo ids ups n i=(kidsI ids ups n i).map ids:=rfl
theorem flat_len(l:List Nat)(f:Nat→List Nat)(j:Nat)(hj:j<l.length):((l.take j).flatMap f).length+(f l[j]).length≤(l.flatMap f).length:=by
 have e:l=l.take j++(l[j]::l.drop (j+1)):=by simp
 have:l.flatMap f=(l.take j).flatMap f++(f l[j]++(l.drop (j+1)).flatMap f):=by
  conv=>lhs;rw[e]
  rw[List.flatMap_append,List.flatMap_cons]
 rw[this,List.length_append,List.length_append];omega
theorem walk_any(w0:World)(B c n:Nat)(ids ups:Nat→Int)(ob off:Nat)(nb:Nat→Nat)(kv:Nat→Value)(hN:Nodes w0 B c n ids ob off nb kv (kidsTo ids ups n))(hr:Rises ids n)(h0:∀j,j<n→ids j≠ups 0)
 (hw:∀i,i<n→(Lit.int .i64 (ids i)).wf=true)(hn:n≤271)(f:Nat):
 ∀(i:Nat) (l:List Int) (v:Value) (w:World),i<n→(∀j m,j<n→parIt ids ups n m j=some i→m<f)→l.length+(preI ids ups n f i).length≤271→Walk w0 c w v l→
  Calls Tryz.prog 100 #[.int .i64 (ids i),.pointer (some ⟨w0.heap.size+1,0,none⟩),.pointer (some ⟨w0.heap.size,0,none⟩),.pointer (some ⟨w0.heap.size+1+1,0,none⟩)] w fun e w'=>
   ∃v',e= .returned (.tuple #[])∧Walk w0 c w' v' (l++(preI ids ups n f i).map ids):=by
 have HN:=hid hN;have HR:=hid hr;have H0:=hid h0;have HW:=hid hw;clear hN hr h0 hw;induction f with
 |zero=>intro i l v w hi hh;exact absurd (hh i 0 hi rfl) (by omega)
 |succ f ih=>
  intro i l v w hi hh hl hk;have IH:=hid ih;have HH:=hid hh;have HK:=hid hk;have hlen:l.length+1≤271:=by simp[preI]at hl;omega
  have HL:=hid hl;clear ih hh hk hl;have x1:_=some v:=HK.out.p.c0 0 rfl;have L1:=hid (NumL.one (w:=w) (ids i));have n1:Nw (w.alloc (.cells #[.int .i64 (ids i)] 2)):=⟨⟩;have b1:Below w.heap.size w n1:=(Below.refl _ w).alloc (Nat.le_refl _) _;have O1:Hid (OwnI n1 (w0.heap.size+1+1+1) v l):=hid (OwnI.alloc HK.out.o _);have hs:=HK.out.r.lt;have s1:w0.heap.size+1+1+1≤(n1:World).heap.size:=by simp;omega
  have P1:Hid (∀w':World,(n1:World).grownBy w' v.ownBlock→Blk w' (w0.heap.size+1) (.cells #[v] 40)):=hid (fun w' hg=>(HK.out.p.below b1).grown hg (fun e=>by have:=(World.ownsRow.lt HK.out.o _ e.symm).1;omega));clear b1;obtain⟨ka,kc,hkv⟩:=ownsRow_shape (HN.out.own i hi);have KV:=hid hkv;clear hkv;have D3:Hid (∀(a3:Option Addr) (c3:Nat) (w3:World),OwnI w3 (w0.heap.size+1+1+1) (.slice a3 (l++[ids i]).length c3) (l++[ids i])→(n1:World).grownBy w3 v.ownBlock→
   Walk w0 c (w3.setCell ⟨w0.heap.size+1,0,none⟩ (.slice a3 (l.length+1) c3)) (.slice a3 (l.length+1) c3) (l++[ids i])):=hid (fun a3 c3 w3 o3 g3=>HK.out.push (by simpa using o3) g3)
  have E3:Hid (∀(W:World) (v':Value) (l':List Int),Walk w0 c W v' l'→W.cell? ⟨w0.heap.size,0,none⟩=some (.map (some c))∧(Instr.lookup 88 (.map (some c)) (.int .i64 (ids i)) false).run Tryz.prog W= .ok (.pointer (some ⟨nb i,0,none⟩)) W∧W.cell? ⟨nb i,1,none⟩=some (.slice ka (kidsTo ids ups n i).length kc)):=hid (fun W v' l' hk=>by
   have N2:=HN.out.below hk.b;have LK:=N2.map.look (HW.out i hi);rw[findI_eq HR.out hi]at LK;exact⟨hk.q.c0 0 rfl,LK,by rw[←KV.out];exact(N2.blk i hi).c0 1 rfl⟩)
  have hm:(kidsTo ids ups n i).length≤271:=by have:=kidsTo_len ids ups n i;omega
  go_enter Tryz.func100,Tryz.ntmps100
  go_wp2_with(refine wpList_append_ints _ rfl _ _ rfl (w0.heap.size+1+1+1) v l rfl O1.out _ 1 1 [ids i] rfl rfl L1.out (by omega) s1 ?_;intro a3 c3 w3 o3 g3 v3;have p3:=P1.out w3 g3;have z1:_=some v:=p3.c0 0 rfl;have z2:=p3.warm 0;have K2:=hid (D3.out a3 c3 w3 o3 g3);obtain⟨y0,LK,y1⟩:=E3.out _ _ _ K2.out;clear o3 g3 v3 p3)
  clear z1 z2 y0 LK y1 x1 L1 O1 P1 D3 E3 HK s1;generalize w3.setCell ⟨w0.heap.size+1,0,none⟩ (.slice a3 (l.length+1) c3)=W at *;generalize Value.slice a3 (l.length+1) c3=v2 at *;clear hs;have hml:(kidsTo ids ups n i).length=(kidsI ids ups n i).length:=by rw[kidsTo_map,List.length_map]
  have HML:=hid hml;clear hml;go_loopw [18] (fun t wr=>∃(j:Nat) (v':Value),j≤(kidsTo ids ups n i).length∧t= .int .i64 j∧Hid (Walk w0 c wr v' (l++[ids i]++(((kidsI ids ups n i).take j).flatMap (preI ids ups n f)).map ids))) (fun t _=>(kidsTo ids ups n i).length-(intOf t).toNat)
  case atStart=>exact⟨0,v2,Nat.zero_le _,rfl,hid (by simpa using K2.out)⟩
  case round=>
   obtain⟨j,v',hj,rfl,HWk⟩:=hrel;clear K2;by_cases hlt:j<(kidsTo ids ups n i).length
   ·have i1:(j:Int)<((kidsTo ids ups n i).length:Int):=(by omega);have i0:(0:Int)≤(j:Int):=(by omega);have hj2:j<(kidsI ids ups n i).length:=(by have:=HML.out;omega);have ow:=(HN.out.below HWk.out.b).own i hi;rw[KV.out]at ow;obtain⟨b,o,rfl,_,hcc⟩:=OwnI.lies ow (by omega);have g1:wr.cell? ⟨b,o+j,none⟩=some (.int .i64 (ids (kidsI ids ups n i)[j])):=hcc j _ (by simp[kidsTo_map,hj2]);have r1:wr.cell? ⟨w0.heap.size+1+1,0,none⟩=some (walkFn w0.heap.size):=HWk.out.r.c0 0 rfl;unfold walkFn at r1;obtain⟨k1,k2⟩:=(mem_kids HR.out H0.out hi).1 (List.getElem_mem hj2);have CK:=hid (IH.out (kidsI ids ups n i)[j] _ v' wr k1 (fun a m ha e=>by
     have:=HH.out a (m+1) ha (by rw[parIt_succ',e];exact k2);omega) (by
     have h1:=HL.out;have h2:=flat_len (kidsI ids ups n i) (preI ids ups n f) j hj2;simp only[preI,List.length_cons]at h1;simp only[List.length_append,List.length_map,List.length_cons,List.length_nil];omega) HWk.out)
    have EX:Hid (l++[ids i]++(((kidsI ids ups n i).take j).flatMap (preI ids ups n f)).map ids++(preI ids ups n f (kidsI ids ups n i)[j]).map ids=l++[ids i]++(((kidsI ids ups n i).take (j+1)).flatMap (preI ids ups n f)).map ids):=hid (by
     rw[List.take_succ_eq_append_getElem hj2,List.flatMap_append,List.map_append];simp)
    generalize ids (kidsI ids ups n i)[j]=y at *;clear hcc ow k1 k2;go_wp2_with(go_at_call 100;refine CK.out.mono ?_;rintro e w4 ⟨v4,rfl,h4⟩;have H4:=hid h4;clear h4)
    have H5:=H4.out;rw[EX.out]at H5;exact⟨⟨j+1,v4,by omega,by go_num,hid H5⟩,by simp[intOf];omega⟩
   ·have e:j=(kidsI ids ups n i).length:=(by have:=HML.out;omega);have i1:¬(j:Int)<((kidsTo ids ups n i).length:Int):=(by omega);have H5:=HWk.out;rw[e,List.take_length]at H5;have H6:Hid (Walk w0 c wr v' (l++(preI ids ups n (f+1) i).map ids)):=hid (by simpa[preI]using H5);clear H5 e HWk;go_wp2;exact bodyPost_end (v:= .tuple #[]) (by simp[results,Tryz.results100,go_sem]) rfl ⟨rfl,_,H6.out⟩
theorem results72(tmps:Array Value)(W:World)(P:Nat)(x y:Value)(h:Blk W P (.cells #[x,y] 30))(h2:tmps[2]? =some (.pointer (some ⟨P,0,none⟩))):
 (results Tryz.f120 tmps).run Tryz.prog W= .ok (.agg #[x,y]) W:=by
 obtain⟨z0,z1⟩:=h.two;simp[results,Tryz.results120,go_sem,h2,z0,z1]
theorem OwnCats.madeAt(w:World)(B:Nat)(hb:B≤w.heap.size)(f g:Nat→Int):OwnCats (w.alloc (.cells #[] 95)) B (.slice (some ⟨w.heap.size,0,none⟩) 0 0) 0 f g:=World.ownsRow_made w #[] 0 hb (Nat.zero_le _) rfl
theorem OwnCats.newL{w:World}{B n c:Nat}{a:Option Addr}{f g:Nat→Int}(h:OwnCats w B (.slice a n c) n f g)(hn:n≤1048576):CatL.new B w ⟨a,n,c,f,g⟩:=
 ⟨⟨by unfold maxLen;simp only;omega,h.cats⟩,fun h0=>row_of_own h h0⟩
theorem l3CopyLabel_any(b:Int)(c:CatL)(w:World)(hc:c.at w)(hn:c.n≤1048576):
 Calls Tryz.prog 120 #[.agg #[.int .i64 b,c.val]] w fun e w'=>∃d:CatL,e= .returned (.agg #[.int .i64 b,d.val])∧c.same d∧d.new w.heap.size w'∧Below w.heap.size w w':=by
 obtain⟨a,n,cap,f,g⟩:=c;unfold CatL.val;simp only at hn ⊢;have n1:No (.cells #[.int .i64 0,.slice none 0 0] 30):=⟨⟩;have n2:No (.cells #[.int .i64 b,.slice a n cap] 30):=⟨⟩;have b0:Below w.heap.size w ((w.alloc n2).alloc n1):=((Below.refl _ w).alloc (Nat.le_refl _) _).alloc (by simp) _;have A0:=(Blk.new w n2).alloc n1;have R0:Blk ((w.alloc n2).alloc n1) (w.heap.size+1) n1:=by
  have:=Blk.new (w.alloc n2) n1;simpa using this
 have T0:=hid (hc.below b0).2;simp only at T0;obtain⟨x0,x1⟩:=A0.two;clear hc;go_enter Tryz.func120,Tryz.ntmps120
 go_wp2;generalize hV:((w.alloc n2).alloc n1)=V at *;have n3:Nw (V.alloc (.cells #[] 95)):=⟨⟩;have bm:Below V.heap.size V ((n3:World).drew):=below_drew ((Below.refl _ V).alloc (Nat.le_refl _) _);have n4:Nv (.slice (some ⟨V.heap.size,0,none⟩) 0 0):=⟨⟩;have OM:Hid (OwnCats ((n3:World).drew) w.heap.size n4 0 f g):=hid (OwnCats.madeAt V w.heap.size b0.size f g);have TM:=hid (T0.out.below bm);have s1:w.heap.size≤((n3:World).drew).heap.size:=(then_ b0 bm).size;have lm:n≤4194304:=by omega
 have R1:=hid (R0.below bm);have B1:=hid (then_ b0 bm);obtain⟨y0,y1⟩:=(A0.alloc (.cells #[] 95)).two;have px:¬w.heap.size=V.heap.size:=by have:=A0.lt;omega
 have vlt:w.heap.size+1<V.heap.size:=R0.lt;have RG:Hid (∀w3:World,((n3:World).drew).grownBy w3 (some V.heap.size)→Blk w3 (w.heap.size+1) n1):=hid (fun w3 g3=>R1.out.grown g3 (by simp;omega));have A1:=hid (A0.below bm);have AG:Hid (∀w3:World,((n3:World).drew).grownBy w3 (some V.heap.size)→Blk w3 w.heap.size n2):=hid (fun w3 g3=>A1.out.grown g3 (by simp;omega));clear hV bm A0 R0 T0;go_region_law(refine step_append_cats0 _ (by rfl) _ _ (by rfl) w.heap.size n4 f g (by rfl) OM.out a n cap f g (by rfl) TM.out lm s1 ?_;intro a3 c3 w3 o3 g3 v3;have O3:=hid o3;have G3:=hid g3;have RR:=hid (RG.out w3 g3);obtain⟨r0,r1⟩:=RR.out.two;have rf:=RR.out.warm;obtain⟨q0,q1⟩:=(AG.out w3 g3).two;clear o3 g3 v3)
 all_goals(
  have B3:Hid (Below w.heap.size w w3):=hid (B1.out.trans (below_grown G3.out B1.out.size (fun j hj=>by cases hj;show w.heap.size≤V.heap.size;omega)));have N3:=hid (O3.out.newL hn);clear G3 O3 OM TM RG x0 x1 y0 y1 q0 q1 AG A1;go_wp2;refine bodyPost_ret (results72 _ _ (w.heap.size+1) (.int .i64 b) (.slice a3 n c3) ((RR.out.setAt (i:=0) _).setAt (i:=1) _) rfl) rfl ⟨⟨a3,n,c3,f,g⟩,rfl,⟨rfl,rfl,rfl⟩,?_,?_⟩
  ·refine N3.out.of (by simp) (fun q hq hn'=>?_);have q2:=N3.out.ne RR.out (by decide) q hq hn';iterate 2 rw[blk_setCell_other _ _ _ _ (by dsimp only;omega)]
  ·iterate 2 refine Below.setCell ?_ (by dsimp only;omega) _
   exact B3.out)
theorem grown_set{a b:World}{P:Nat}(h:a.grownBy b (some P))(i:Nat)(v:Value):a.grownBy (b.setCell ⟨P,i,none⟩ v) (some P):=
 ⟨h.os,h.tape,h.output,by rw[nblk_setCell];exact h.size,fun j hj hne=>(blk_setCell_other _ _ _ _ (by dsimp only;intro e;exact hne (by rw[e]))).trans (h.block j hj hne)⟩
theorem grown_refl(a:World)(P:Nat):a.grownBy a (some P):=⟨rfl,rfl,rfl,Nat.le_refl _,fun _ _ _=>rfl⟩
def RowI(w:World)(a:Option Addr)(b n:Nat):Prop:=0<n→a=some ⟨b,0,none⟩∧∃m F,n≤m∧w.rowIs b 2 m F
theorem RowI.below{w w':World}{a:Option Addr}{b n:Nat}(h:RowI w a b n)(hb:Below w.heap.size w w'):RowI w' a b n:=fun h0=>by
 obtain⟨e,m,F,hm,hr⟩:=h h0;exact⟨e,m,F,hm,hr.of_block (hb.block b hr.lt)⟩
theorem RowI.grown{w w':World}{a:Option Addr}{b n:Nat}{row:Option Nat}(h:RowI w a b n)(hg:w.grownBy w' row)(hne:some b≠row):RowI w' a b n:=fun h0=>by
 obtain⟨e,m,F,hm,hr⟩:=h h0;exact⟨e,m,F,hm,hr.of_block (hg.block b hr.lt hne)⟩
theorem RowI.lt{w:World}{a:Option Addr}{b n:Nat}(h:RowI w a b n)(h0:0<n):b<w.heap.size:=by
 obtain⟨_,m,F,_,hr⟩:=h h0;exact hr.lt
theorem IntsAt.grown{w w':World}{a:Option Addr}{b n:Nat}{h:Nat→Int}{row:Option Nat}(hc:IntsAt w a n h)(hr:RowI w a b n)(hg:w.grownBy w' row)(hne:0<n→some b≠row):IntsAt w' a n h:=fun h0=>by
 obtain⟨b',off,e,hlt,hcc⟩:=hc h0;obtain⟨e2,m,F,hm,hrow⟩:=hr h0;have e3:=e.symm.trans e2;simp only[Option.some.injEq,Addr.mk.injEq]at e3;obtain⟨rfl,_,_⟩:=e3;refine⟨b',off,e,Nat.lt_of_lt_of_le hlt hg.size,fun i hi=>?_⟩;have hb:=hg.block b' hlt (hne h0);exact(by simp only[World.cell?];rw[hb]:w'.cell? ⟨b',off+i,none⟩=w.cell? ⟨b',off+i,none⟩).trans (hcc i hi)
theorem OwnI.of_block{w w':World}{B:Nat}{v:Value}{l:List Int}(h:OwnI w B v l)(hb:∀g,v.ownBlock=some g→w'.heap[g]? =w.heap[g]?):OwnI w' B v l:=by
 refine⟨h.1,?_⟩;rcases h.2 with hn|⟨g,cap,cur,rfl,h1,h2,rest⟩
 ·exact .inl hn
 ·exact .inr ⟨g,cap,cur,rfl,h1,(hb g rfl).trans h2,rest⟩
theorem OwnI.below{w w':World}{B:Nat}{v:Value}{l:List Int}(h:OwnI w B v l)(hb:Below w.heap.size w w'):OwnI w' B v l:=h.of_block fun g hg=>hb.block g (World.ownsRow.lt h g hg).2
theorem OwnI.mk{lo hi:Nat}{w w':World}{B:Nat}{v:Value}{l:List Int}(h:OwnI w B v l)(hm:Mk lo hi w w')(hb:∀g,v.ownBlock=some g→g<lo∨hi≤g):OwnI w' B v l:=h.of_block fun g hg=>hm.block g (World.ownsRow.lt h g hg).2 (hb g hg)
theorem Mk.below{lo hi:Nat}{w w0 w':World}(h0:Below w0.heap.size w0 w)(h:Mk lo hi w w')(hB:w0.heap.size≤lo):Below w0.heap.size w0 w':=
 ⟨h.os.trans h0.os,h.tape.trans h0.tape,h.output.trans h0.output,Nat.le_trans h0.size h.size,fun k hk=>(h.block k (Nat.lt_of_lt_of_le hk h0.size) (.inl (by omega))).trans (h0.block k hk)⟩
end Go.Proofs.YtallmkehpfaaeaaGreatDoor
