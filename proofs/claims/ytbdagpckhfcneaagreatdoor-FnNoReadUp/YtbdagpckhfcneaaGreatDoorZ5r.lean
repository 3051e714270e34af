import Derived.Test.YtbdagpckhfcneaaGreatDoorZ4r
set_option maxRecDepth 100000
set_option maxHeartbeats 8000000
namespace Go.Proofs.YtbdagpckhfcneaaGreatDoor
open Go Go.RowKit Go.Deep Go.Maps Go.BigFrame Go.Shelf Go.Proofs.Tryz
def Ab.new(B:Nat)(w:World)(t:Ab):Prop:=t.c1.new B w/\t.jA.new B w/\t.own.new B w/\t.c2.new B w
def Ab.apart(t:Ab):Prop:=∀b b',t.c1.a=some ⟨b,0,none⟩->0<t.c1.n->t.c2.a=some ⟨b',0,none⟩->0<t.c2.n->b≠b'
theorem PI(tmps:Array Value)(W:World)(P:Nat)(x0 x1 x2 x3 x4 x5 x6 x7 x8 x9:Value)(h:Ag W P (.cells #[x0,x1,x2,x3,x4,x5,x6,x7,x8,x9] 47))(h2:tmps[2]? =some (.pointer P)):
 (results Tryz.f49 tmps).run prog W= .ok (.agg #[x0,x1,x2,x3,x4,x5,x6,x7,x8,x9]) W:=by
 obtain⟨z0,z1,z2,z3,z4,z5,z6,z7,z8,z9⟩:=h.jE;simp[results,Tryz.results49,go_sem,h2,z0,z1,z2,z3,z4,z5,z6,z7,z8,z9]
def Di:Obj:= .cells #[.int .i64 0,.int .i64 0,.int .i64 0,.int .i64 0,.slice none 0 0,.string (ByteArray.mk #[]),.slice none 0 0,.slice none 0 0,.int .i64 0,.slice none 0 0] 47
theorem KZ(t:Ab)(w:World)(ht:t.at w)(hs:t.small):
 Calls prog 49 #[t.val] w fun e w'=>∃u:Ab,e= .returned u.val/\t.same u/\u.new w w'/\u.apart/\Below w w w':=by
 have EG:∀args w,(callFunc 88 args).run prog w= .ok (.enter 88 args) w:=enters_of func88 (by kernel_rfl) rfl;have EH:∀args w,(callFunc 89 args).run prog w= .ok (.enter 89 args) w:=enters_of func89 (by kernel_rfl) rfl;have EI:∀args w,(callFunc 90 args).run prog w= .ok (.enter 90 args) w:=enters_of func90 (by kernel_rfl) rfl;have b0:Below w w ((w.alloc t.blk).alloc Di):=(Bd w _).alloc (by simp) _;have A0:=(Ag.new w t.blk).alloc Di;have R0:Ag ((w.alloc t.blk).alloc Di) (w.heap.size+1) Di:=by
  have:=Ag.new (w.alloc t.blk) Di;simpa using this
 have T0:=hid (ht.below b0);unfold Ab.blk Di at b0 A0 R0 T0;unfold Ab.val;obtain⟨x0,x1,x2,x3,x4,x5,x6,x7,x8,x9⟩:=A0.jE;obtain⟨m1,m2,m3,m4,m5⟩:=hs;clear ht;go_enter func49,ntmps49
 go_wp2;have n5:No (.cells #[t.id,t.kind,t.up,t.b1,t.c1.val,.string t.data,t.jA.val,t.own.val,t.b2,t.c2.val] 47):=⟨⟩;generalize hV:((w.alloc n5).alloc (.cells #[.int .i64 0,.int .i64 0,.int .i64 0,.int .i64 0,.slice none 0 0,.string (ByteArray.mk #[]),.slice none 0 0,.slice none 0 0,.int .i64 0,.slice none 0 0] 47))=V at *;have B0:=hid b0;have A0':=hid A0;have R0':=hid R0;have PA:Hid (∀W,Below V V W->Calls prog 88 #[.agg #[t.b1,t.c1.val]] W fun e w'=>∃v,e= .returned v/\∃d:Aq,v= .agg #[t.b1,d.val]/\t.c1.same d/\d.new W w'/\Below W W w'):=hid (fun W hW=>(AO t.b1 t.c1 W (T0.out.below hW).1 m1).mono fun e w' ⟨d,h1,h2,h3,h4⟩=>⟨_,h1,d,rfl,h2,h3,h4⟩);have PB:Hid (∀W,Below V V W->Calls prog 88 #[.agg #[t.b2,t.c2.val]] W fun e w'=>∃v,e= .returned v/\∃d:Aq,v= .agg #[t.b2,d.val]/\t.c2.same d/\d.new W w'/\Below W W w'):=hid (fun W hW=>(AO t.b2 t.c2 W (T0.out.below hW).2.2.2.1 m5).mono fun e w' ⟨d,h1,h2,h3,h4⟩=>⟨_,h1,d,rfl,h2,h3,h4⟩);have PC:Hid (∀W,Below V V W->Calls prog 89 #[t.own.val] W fun e w'=>∃v,e= .returned v/\∃d:AH,v=d.val/\t.own.same d/\d.new W w'/\Below W W w'):=hid (fun W hW=>(Jv t.own W (T0.out.below hW).2.2.1 m4).mono fun e w' ⟨d,h1,h2,h3,h4⟩=>⟨_,h1,d,rfl,h2,h3,h4⟩);have PD:Hid (∀W,Below V V W->Calls prog 90 #[t.jA.val] W fun e w'=>∃v,e= .returned v/\∃d:Aw,v=d.val/\t.jA.same d/\d.new W w'/\Below W W w'):=hid (fun W hW=>(Ol t.jA W (T0.out.below hW).2.1 m3.1).mono fun e w' ⟨d,h1,h2,h3,h4⟩=>⟨_,h1,d,rfl,h2,h3,h4⟩);have V0:Hid (Below V V V.drew):=hid (Below.refl _ V).drew;have Ad:Hid (Ag V.drew w n5):=hid A0;clear hV b0 A0 R0;have HS0:Ag V.drew w n5:=Ad.out;refine Am 13 (fun W=>Ag W w n5) (by kernel_rfl) ?_;have HS1:(fun W=>Ag W w n5) V.drew:=HS0;clear HS0;have n6:Nv (.pointer (some ⟨w,3,none⟩)):=⟨⟩;refine Bb (i:=0) (d:=3) n6 rfl rfl (by kernel_rfl) (by kernel_rfl) (by kernel_rfl) (by kernel_rfl) (by kernel_rfl) (by kernel_rfl) (fun _ _ _ h=>h) (Or.inl ⟨by rfl,fun W hSw=>by go_simp⟩) HS1 ?_;simp only[ap,List.set];refine Bb (i:=1) (d:=4) (.agg #[t.b1,t.c1.val]) rfl rfl (by kernel_rfl) (by kernel_rfl) (by kernel_rfl) (by kernel_rfl) (by kernel_rfl) (by kernel_rfl) (fun _ _ _ h=>h) (Or.inl ⟨by rfl,fun W hSw=>by obtain⟨q0,q1,q2,q3,q4,q5,q6,q7,q8,q9⟩:=Ag.jE hSw;go_simp⟩) HS1 ?_;simp only[ap,List.set];refine Bb (i:=3) (d:=6) (.pointer (some ⟨w,8,none⟩)) rfl rfl (by kernel_rfl) (by kernel_rfl) (by kernel_rfl) (by kernel_rfl) (by kernel_rfl) (by kernel_rfl) (fun _ _ _ h=>h) (Or.inl ⟨by rfl,fun W hSw=>by go_simp⟩) HS1 ?_;simp only[ap,List.set];refine Bb (i:=4) (d:=7) (.agg #[t.b2,t.c2.val]) rfl rfl (by kernel_rfl) (by kernel_rfl) (by kernel_rfl) (by kernel_rfl) (by kernel_rfl) (by kernel_rfl) (fun _ _ _ h=>h) (Or.inl ⟨by rfl,fun W hSw=>by obtain⟨q0,q1,q2,q3,q4,q5,q6,q7,q8,q9⟩:=Ag.jE hSw;go_simp⟩) HS1 ?_;simp only[ap,List.set];refine Bb (i:=6) (d:=9) (.pointer (some ⟨w,7,none⟩)) rfl rfl (by kernel_rfl) (by kernel_rfl) (by kernel_rfl) (by kernel_rfl) (by kernel_rfl) (by kernel_rfl) (fun _ _ _ h=>h) (Or.inl ⟨by rfl,fun W hSw=>by go_simp⟩) HS1 ?_;simp only[ap,List.set];refine Bb (i:=7) (d:=10) (t.own.val) rfl rfl (by kernel_rfl) (by kernel_rfl) (by kernel_rfl) (by kernel_rfl) (by kernel_rfl) (by kernel_rfl) (fun _ _ _ h=>h) (Or.inl ⟨by rfl,fun W hSw=>by obtain⟨q0,q1,q2,q3,q4,q5,q6,q7,q8,q9⟩:=Ag.jE hSw;go_simp⟩) HS1 ?_;simp only[ap,List.set];refine Bb (i:=9) (d:=12) (.pointer (some ⟨w,6,none⟩)) rfl rfl (by kernel_rfl) (by kernel_rfl) (by kernel_rfl) (by kernel_rfl) (by kernel_rfl) (by kernel_rfl) (fun _ _ _ h=>h) (Or.inl ⟨by rfl,fun W hSw=>by go_simp⟩) HS1 ?_;simp only[ap,List.set];refine Bb (i:=10) (d:=13) (t.jA.val) rfl rfl (by kernel_rfl) (by kernel_rfl) (by kernel_rfl) (by kernel_rfl) (by kernel_rfl) (by kernel_rfl) (fun _ _ _ h=>h) (Or.inl ⟨by rfl,fun W hSw=>by obtain⟨q0,q1,q2,q3,q4,q5,q6,q7,q8,q9⟩:=Ag.jE hSw;go_simp⟩) HS1 ?_;simp only[ap,List.set];refine Ac (i:=2) (by kernel_rfl) rfl ?_;intro K hK;refine Ax (by rfl) 88 _ _ (by rfl) EG _ (by rfl) (some 5) (by rfl) _ (PA _ V0) ?_;rintro v w1 ⟨d1,rfl,s1,n1,h1⟩;refine hK _ _ (fun _=>Ag.below HS1 h1) ?_;have V1:=hid (Af V0 h1);have HS2:(fun W=>Ag W w n5) w1:=Ag.below HS1 h1;clear hK K HS1;try simp only[ap,List.set]
 refine Bb (i:=12) (d:=15) n6 rfl rfl (by kernel_rfl) (by kernel_rfl) (by kernel_rfl) (by kernel_rfl) (by kernel_rfl) (by kernel_rfl) (fun _ _ _ h=>h) (Or.inl ⟨by rfl,fun W hSw=>by go_simp⟩) HS2 ?_;simp only[ap,List.set];refine Ac (i:=5) (by kernel_rfl) rfl ?_;intro K hK;refine Ax (by rfl) 88 _ _ (by rfl) EG _ (by rfl) (some 8) (by rfl) _ (PB _ V1) ?_;rintro v w2 ⟨d2,rfl,s2,n2,h2⟩;refine hK _ _ (fun _=>Ag.below HS2 h2) ?_;have V2:=hid (Af V1 h2);have HS3:(fun W=>Ag W w n5) w2:=Ag.below HS2 h2;clear hK K HS2;try simp only[ap,List.set]
 refine Ac (i:=8) (by kernel_rfl) rfl ?_;intro K hK;refine Ax (by rfl) 89 _ _ (by rfl) EH _ (by rfl) (some 11) (by rfl) _ (PC _ V2) ?_;rintro v w3 ⟨d3,rfl,s3,n3,h3⟩;refine hK _ _ (fun _=>Ag.below HS3 h3) ?_;have V3:=hid (Af V2 h3);have HS4:(fun W=>Ag W w n5) w3:=Ag.below HS3 h3;clear hK K HS3;try simp only[ap,List.set]
 refine Ac (i:=11) (by kernel_rfl) rfl ?_;intro K hK;refine Ax (by rfl) 90 _ _ (by rfl) EI _ (by rfl) (some 14) (by rfl) _ (PD _ V3) ?_;rintro v w4 ⟨d4,rfl,s4,n4,h4⟩;refine hK _ _ (fun _=>Ag.below HS4 h4) ?_;have V4:=hid (Af V3 h4);have HS5:(fun W=>Ag W w n5) w4:=Ag.below HS4 h4;clear hK K HS4;try simp only[ap,List.set]
 unfold Aq.val AH.val Aw.val;obtain⟨g0,g1,g2,g3,g4,g5,g6,g7,g8,g9⟩:=Ag.jE HS5;have gf:=Ag.jC HS5;simp only[Aq.val,AH.val,Aw.val]at g4 g6 g7 g9;refine Ac (i:=13) (by kernel_rfl) rfl ?_;intro K hK;go_simp;refine hK _ _ (fun h=>absurd h (by decide)) ?_;clear hK K;try simp only[ap,List.set]
 refine Ac (i:=14) (by kernel_rfl) rfl ?_;intro K hK;go_simp;refine hK _ _ (fun h=>absurd h (by decide)) ?_;clear hK K;try simp only[ap,List.set]
 refine Ac (i:=15) (by kernel_rfl) rfl ?_;intro K hK;go_simp;refine hK _ _ (fun h=>absurd h (by decide)) ?_;clear hK K;try simp only[ap,List.set]
 refine Ac (i:=16) (by kernel_rfl) rfl ?_;intro K hK;go_simp;refine hK _ _ (fun h=>absurd h (by decide)) ?_;clear hK K;try simp only[ap,List.set]
 refine Ac (i:=17) (by kernel_rfl) rfl ?_;intro K hK;go_simp;refine hK _ _ (fun h=>absurd h (by decide)) ?_;clear hK K;try simp only[ap,List.set]
 refine Ac (i:=18) (by kernel_rfl) rfl ?_;intro K hK;go_simp;refine hK _ _ (fun h=>absurd h (by decide)) ?_;clear hK K;try simp only[ap,List.set]
 refine Ac (i:=19) (by kernel_rfl) rfl ?_;intro K hK;go_simp;refine hK _ _ (fun h=>absurd h (by decide)) ?_;clear hK K;try simp only[ap,List.set]
 refine Aj (by kernel_rfl) ?_ _;have A3:=hid HS5;have R3:Hid (Ag w4 (w.heap.size+1) _):=hid (R0'.out.below V4);have N1:=hid (((n1.below h2).below h3).below h4);have N2:=hid ((n2.below h3).below h4);have N3:=hid (n3.below h4);have N4:=hid n4;have S1:=hid s1;have S2:=hid s2;have S3:=hid s3;have S4:=hid s4;have AP:Hid (∀b b',d1.a=some ⟨b,0,none⟩->0<d1.n->d2.a=some ⟨b',0,none⟩->0<d2.n->b≠b'):=hid (fun b b' e1 p1 e2 p2=>by
  obtain⟨c,_,_,q1,_,_,q2⟩:=n1.2 p1;obtain⟨c',_,_,q3,q4,_⟩:=n2.2 p2;rw[e1]at q1;rw[e2]at q3;cases q1;cases q3;have:=q2.lt;omega)
 have B3:=hid (Af B0 V4);have L0:=hid (show w.heap.size<=V.drew.heap.size from B0.out.size);have L1:=hid (Nat.le_trans L0 h1.size);have L2:=hid (Nat.le_trans L1 h2.size);have L3:=hid (Nat.le_trans L2 h3.size);obtain⟨r0,r1,r2,r3,r4,r5,r6,r7,r8,r9⟩:=R3.out.jE;have rf:=R3.out.jC;have ne1:¬w.heap.size+1=w.heap.size:=by omega
 have ne2:¬w.heap.size=w.heap.size+1:=by omega
 clear h1 h2 h3 h4 n1 n2 n3 n4 s1 s2 s3 s4 x0 x1 x2 x3 x4 x5 x6 x7 x8 x9 PA PB PC PD EG EH EI V0 V1 V2 V3 V4 Ad HS5;go_wp2;refine bodyPost_ret (PI _ _ (w.heap.size+1) (.int .i64 t.id) (.int .i64 t.kind) (.int .i64 t.up) (.int .i64 t.b1) (.slice d1.a d1.n d1.k) (.string t.data) (.slice d4.a d4.n d4.k) (.slice d3.a d3.n d3.k) (.int .i64 t.b2) (.slice d2.a d2.n d2.k) (Ag.all10 ((((((R3.out.other (by omega) _).other (by omega) _).other (by omega) _).other (by omega) _).other (by omega) _).other (by omega) _) _ _ _ _ _ _ _ _ _ _) rfl) rfl ⟨⟨t.id,t.kind,t.up,t.b1,d1,t.data,d4,d3,t.b2,d2⟩,rfl,⟨rfl,rfl,rfl,rfl,S1,rfl,S4,S3,rfl,S2⟩,⟨?_,?_,?_,?_⟩,AP,?_⟩
 ·refine(N1.out.low L0).of (by simp) (fun g hg hn'=>?_);have q1:=N1.out.ne A3 (by decide) g hg hn';have q2:=N1.out.ne R3 (by decide) g hg hn';iterate 16 rw[blk_setCell_other _ _ _ _ (by dsimp only;omega)]
 ·refine(N4.out.low L3).of (by simp) (fun g hg hn'=>?_);have q1:=N4.out.ne A3 (by decide) g hg hn';have q2:=N4.out.ne R3 (by decide) g hg hn';iterate 16 rw[blk_setCell_other _ _ _ _ (by dsimp only;omega)]
 ·refine(N3.out.low L2).of (by simp) (fun g hg hn'=>?_);have q1:=N3.out.ne A3 (by decide) g hg hn';have q2:=N3.out.ne R3 (by decide) g hg hn';iterate 16 rw[blk_setCell_other _ _ _ _ (by dsimp only;omega)]
 ·refine(N2.out.low L1).of (by simp) (fun g hg hn'=>?_);have q1:=N2.out.ne A3 (by decide) g hg hn';have q2:=N2.out.ne R3 (by decide) g hg hn';iterate 16 rw[blk_setCell_other _ _ _ _ (by dsimp only;omega)]
 ·iterate 16 refine Below.setCell ?_ (by dsimp only;omega) _
  exact B3.out
def MJ(N:Nat):Value:= .func (.func 123) #[] #[.pointer (some ⟨N+1,0,none⟩),.pointer N,.pointer (some ⟨N+1+1,0,none⟩)]
structure Lh(w0:World)(c:Nat)(w:World)(v:Value)(l:List Int):Prop where
 b:Below w0 w0 w
 q:Ag w w0 (.cells #[.map (some c)] 88)
 p:Ag w (w0.heap.size+1) (.cells #[v] 40)
 r:Ag w (w0.heap.size+1+1) (.cells #[MJ w0.heap.size] 172)
 o:AE w (w0.heap.size+1+1+1) v l
theorem Ag.grown{w w':World}{P:Nat}{o:Obj}{row:Option Nat}(h:Ag w P o)(hg:w.grownBy w' row)(hne:some P≠row):Ag w' P o:=(hg.block P h.lt hne).trans h
theorem Lh.push{w0 w w':World}{c:Nat}{v v':Value}{l:List Int}{x:Int}(h:Lh w0 c w v l)(ho:AE w' (w0.heap.size+1+1+1) v' (l++[x]))(hg:(w.alloc (.cells #[.int .i64 x] 2)).grownBy w' v.ownBlock):
 Lh w0 c (w'.setCell ⟨w0.heap.size+1,0,none⟩ v') v' (l++[x]):=by
 have b1:Below w w (w.alloc (.cells #[.int .i64 x] 2)):=Bd w _;have hne:∀k,k<w0.heap.size+1+1+1->some k≠v.ownBlock:=fun k hk e=>by have:=(World.ownsRow.lt h.o k e.symm).1;omega
 have p1:=(h.p.below b1).grown hg (hne _ (by omega));have q1:=(h.q.below b1).grown hg (hne _ (by omega));have r1:=(h.r.below b1).grown hg (hne _ (by omega));refine⟨?_,q1.other (by omega) _,?_,r1.other (by omega) _,?_⟩
 ·exact((h.b.trans (b1.mono h.b.size)).trans (below_grown hg (by have:=h.q.lt;simp;omega) (fun j hj=>by have:=(World.ownsRow.lt h.o j hj).1;omega))).setCell (by dsimp only;omega) _
 ·simpa using p1.jB (i:=0) v'
 ·exact World.ownsRow.kept ho (row:=some (w0.heap.size+1)) ⟨rfl,rfl,rfl,by rw[nblk_setCell];exact Nat.le_refl _,fun j hj hne=>blk_setCell_other _ _ _ _ (by dsimp only;intro e;exact hne (by rw[e]))⟩ (.inr (fun e=>by have:=(World.ownsRow.lt ho _ e).1;omega))
theorem Ia(ids ups:Nat->Int)(n i:Nat):BH ids ups n i=(Du ids ups n i).map ids:=rfl
theorem WH(l:List Nat)(f:Nat->List Nat)(j:Nat)(hj:j<l.length):((l.take j).flatMap f).length+(f l[j]).length<=(l.flatMap f).length:=by
 have e:l=l.take j++(l[j]::l.drop (j+1)):=by simp
 have:l.flatMap f=(l.take j).flatMap f++(f l[j]++(l.drop (j+1)).flatMap f):=by
  conv=>lhs;rw[e]
  rw[List.flatMap_append,List.flatMap_cons]
 rw[this,List.length_append,List.length_append];omega
theorem Yc(w0:World)(B c n:Nat)(ids ups:Nat->Int)(ob off:Nat)(nb:Nat->Nat)(kv:Nat->Value)(hN:DJ w0 B c n ids ob off nb kv (BH ids ups n))(hr:Dp ids n)(h0:∀j,j<n->ids j≠ups 0)
 (hw:∀i,i<n->(Lit.int .i64 (ids i)).wf=true)(hn:n<=271)(f:Nat):
 ∀(i:Nat) (l:List Int) (v:Value) (w:World),i<n->(∀j m,j<n->Bm ids ups n m j=some i->m<f)->l.length+(Fq ids ups n f i).length<=271->Lh w0 c w v l->
  Calls prog 123 #[.int .i64 (ids i),.pointer (some ⟨w0.heap.size+1,0,none⟩),.pointer (w0),.pointer (some ⟨w0.heap.size+1+1,0,none⟩)] w fun e w'=>
   ∃v',e= .returned (.tuple #[])/\Lh w0 c w' v' (l++(Fq ids ups n f i).map ids):=by
 have HN:=hid hN;have HR:=hid hr;have H0:=hid h0;have HW:=hid hw;clear hN hr h0 hw;induction f with
 |zero=>intro i l v w hi hh;exact absurd (hh i 0 hi rfl) (by omega)
 |succ f ih=>
  intro i l v w hi hh hl hk;have IH:=hid ih;have HH:=hid hh;have HK:=hid hk;have hlen:l.length+1<=271:=by simp[Fq]at hl;omega
  have HL:=hid hl;clear ih hh hk hl;have x1:_=some v:=HK.out.p.c0 0 rfl;have L1:=hid (Dv.one (w:=w) (ids i));have n1:Nw (w.alloc (.cells #[.int .i64 (ids i)] 2)):=⟨⟩;have b1:Below w w n1:=Bd w _;have O1:Hid (AE n1 (w0.heap.size+1+1+1) v l):=hid (AE.alloc HK.out.o _);have hs:=HK.out.r.lt;have s1:w0.heap.size+1+1+1<=(n1:World).heap.size:=by simp;omega
  have P1:Hid (∀w':World,(n1:World).grownBy w' v.ownBlock->Ag w' (w0.heap.size+1) (.cells #[v] 40)):=hid (fun w' hg=>(HK.out.p.below b1).grown hg (fun e=>by have:=(World.ownsRow.lt HK.out.o _ e.symm).1;omega));clear b1;obtain⟨ka,kc,hkv⟩:=CZ (HN.out.own i hi);have KV:=hid hkv;clear hkv;have D3:Hid (∀(a3:Option Addr) (c3:Nat) (w3:World),AE w3 (w0.heap.size+1+1+1) (.slice a3 (l++[ids i]).length c3) (l++[ids i])->(n1:World).grownBy w3 v.ownBlock->
   Lh w0 c (w3.setCell ⟨w0.heap.size+1,0,none⟩ (.slice a3 (l.length+1) c3)) (.slice a3 (l.length+1) c3) (l++[ids i])):=hid (fun a3 c3 w3 o3 g3=>HK.out.push (by simpa using o3) g3)
  have E3:Hid (∀(W:World) (v':Value) (l':List Int),Lh w0 c W v' l'->W.cell? ⟨w0,0,none⟩=some (.map (some c))/\(Instr.lookup 88 (.map (some c)) (.int .i64 (ids i)) false).run prog W= .ok (.pointer (nb i)) W/\W.cell? ⟨nb i,1,none⟩=some (.slice ka (BH ids ups n i).length kc)):=hid (fun W v' l' hk=>by
   have N2:=HN.out.below hk.b;have LK:=N2.map.look (HW i hi);rw[Dq HR.out hi]at LK;exact⟨hk.q.c0 0 rfl,LK,by rw[<-KV.out];exact(N2.blk i hi).c0 1 rfl⟩)
  have hm:(BH ids ups n i).length<=271:=by have:=JA ids ups n i;omega
  go_enter func123,ntmps123
  go_wp2_with(refine DY _ rfl _ _ rfl (w0.heap.size+1+1+1) v l rfl O1 _ 1 1 [ids i] rfl rfl L1 (by omega) s1 ?_;intro a3 c3 w3 o3 g3 v3;have p3:=P1.out w3 g3;have z1:_=some v:=p3.c0 0 rfl;have z2:=p3.jC 0;have K2:=hid (D3.out a3 c3 w3 o3 g3);obtain⟨y0,LK,y1⟩:=E3.out _ _ _ K2.out;clear o3 g3 v3 p3)
  clear z1 z2 y0 LK y1 x1 L1 O1 P1 D3 E3 HK s1;generalize w3.setCell ⟨w0.heap.size+1,0,none⟩ (.slice a3 (l.length+1) c3)=W at *;generalize Value.slice a3 (l.length+1) c3=v2 at *;clear hs;have hml:(BH ids ups n i).length=(Du ids ups n i).length:=by rw[Ia,List.length_map]
  have HML:=hid hml;clear hml;go_loopw [18] (fun t wr=>∃(j:Nat) (v':Value),j<=(BH ids ups n i).length/\t= .int .i64 j/\Hid (Lh w0 c wr v' (l++[ids i]++(((Du ids ups n i).take j).flatMap (Fq ids ups n f)).map ids))) (fun t _=>(BH ids ups n i).length-(intOf t).toNat)
  case atStart=>exact⟨0,v2,Nat.zero_le _,rfl,hid (by simpa using K2.out)⟩
  case round=>
   obtain⟨j,v',hj,rfl,HWk⟩:=hrel;clear K2;by_cases hlt:j<(BH ids ups n i).length
   ·have i1:(j:Int)<((BH ids ups n i).length:Int):=(by omega);have i0:(0:Int)<=(j:Int):=(by omega);have hj2:j<(Du ids ups n i).length:=(by have:=HML.out;omega);have ow:=(HN.out.below HWk.out.b).own i hi;rw[KV.out]at ow;obtain⟨b,o,rfl,_,hcc⟩:=AE.lies ow (by omega);have g1:wr.cell? ⟨b,o+j,none⟩=some (.int .i64 (ids (Du ids ups n i)[j])):=hcc j _ (by simp[Ia,hj2]);have r1:wr.cell? ⟨w0.heap.size+1+1,0,none⟩=some (MJ w0):=HWk.out.r.c0 0 rfl;unfold MJ at r1;obtain⟨k1,k2⟩:=(Fx HR H0 hi).1 (List.getElem_mem hj2);have CK:=hid (IH.out (Du ids ups n i)[j] _ v' wr k1 (fun a m ha e=>by
     have:=HH.out a (m+1) ha (by rw[DG,e];exact k2);omega) (by
     have h1:=HL.out;have h2:=WH (Du ids ups n i) (Fq ids ups n f) j hj2;simp only[Fq,List.length_cons]at h1;simp only[List.length_append,List.length_map,List.length_cons,List.length_nil];omega) HWk)
    have EX:Hid (l++[ids i]++(((Du ids ups n i).take j).flatMap (Fq ids ups n f)).map ids++(Fq ids ups n f (Du ids ups n i)[j]).map ids=l++[ids i]++(((Du ids ups n i).take (j+1)).flatMap (Fq ids ups n f)).map ids):=hid (by
     rw[List.take_succ_eq_append_getElem hj2,List.flatMap_append,List.map_append];simp)
    generalize ids (Du ids ups n i)[j]=y at *;clear hcc ow k1 k2;go_wp2_with(go_at_call 123;refine CK.out.mono ?_;rintro e w4 ⟨v4,rfl,h4⟩;have H4:=hid h4;clear h4)
    have H5:=H4.out;rw[EX.out]at H5;exact⟨⟨j+1,v4,by omega,by go_num,hid H5⟩,by simp[intOf];omega⟩
   ·have e:j=(Du ids ups n i).length:=(by have:=HML.out;omega);have i1:¬(j:Int)<((BH ids ups n i).length:Int):=(by omega);have H5:=HWk.out;rw[e,List.take_length]at H5;have H6:Hid (Lh w0 c wr v' (l++(Fq ids ups n (f+1) i).map ids)):=hid (by simpa[Fq]using H5);clear H5 e HWk;go_wp2;exact bodyPost_end (v:= .tuple #[]) (by simp[results,Tryz.results123,go_sem]) rfl ⟨rfl,_,H6⟩
theorem VI(tmps:Array Value)(W:World)(P:Nat)(x y:Value)(h:Ag W P (.cells #[x,y] 30))(h2:tmps[2]? =some (.pointer P)):
 (results Tryz.f114 tmps).run prog W= .ok (.agg #[x,y]) W:=by
 obtain⟨z0,z1⟩:=h.two;simp[results,Tryz.results114,go_sem,h2,z0,z1]
theorem AL.madeAt(w:World)(B:Nat)(hb:B<=w.heap.size)(f g:Nat->Int):AL (w.alloc (.cells #[] 95)) B (.slice (w) 0 0) 0 f g:=World.ownsRow_made w #[] 0 hb (Nat.zero_le _) rfl
theorem AL.newL{w:World}{B n c:Nat}{a:Option Addr}{f g:Nat->Int}(h:AL w B (.slice a n c) n f g)(hn:n<=1048576):Aq.new B w ⟨a,n,c,f,g⟩:=
 ⟨⟨by unfold maxLen;simp only;omega,h.cats⟩,fun h0=>De h h0⟩
theorem Cs(b:Int)(c:Aq)(w:World)(hc:c.at w)(hn:c.n<=1048576):
 Calls prog 114 #[.agg #[.int .i64 b,c.val]] w fun e w'=>∃d:Aq,e= .returned (.agg #[.int .i64 b,d.val])/\c.same d/\d.new w w'/\Below w w w':=by
 obtain⟨a,n,cap,f,g⟩:=c;unfold Aq.val;simp only at hn ⊢;have n1:No (.cells #[.int .i64 0,.slice none 0 0] 30):=⟨⟩;have n2:No (.cells #[.int .i64 b,.slice a n cap] 30):=⟨⟩;have b0:Below w w ((w.alloc n2).alloc n1):=(Bd w _).alloc (by simp) _;have A0:=(Ag.new w n2).alloc n1;have R0:Ag ((w.alloc n2).alloc n1) (w.heap.size+1) n1:=by
  have:=Ag.new (w.alloc n2) n1;simpa using this
 have T0:=hid (hc.below b0).2;simp only at T0;obtain⟨x0,x1⟩:=A0.two;clear hc;go_enter func114,ntmps114
 go_wp2;generalize hV:((w.alloc n2).alloc n1)=V at *;have n3:Nw (V.alloc (.cells #[] 95)):=⟨⟩;have bm:Below V V ((n3:World).drew):=Az (Bd V _);have n4:Nv (.slice (V) 0 0):=⟨⟩;have OM:Hid (AL ((n3:World).drew) w n4 0 f g):=hid (AL.madeAt V w b0.size f g);have TM:=hid (T0.out.below bm);have s1:w.heap.size<=((n3:World).drew).heap.size:=(Af b0 bm).size;have lm:n<=4194304:=by omega
 have R1:=hid (R0.below bm);have B1:=hid (Af b0 bm);obtain⟨y0,y1⟩:=(A0.alloc (.cells #[] 95)).two;have px:¬w.heap.size=V.heap.size:=by have:=A0.lt;omega
 have vlt:w.heap.size+1<V.heap.size:=R0.lt;have RG:Hid (∀w3:World,((n3:World).drew).grownBy w3 (some V)->Ag w3 (w.heap.size+1) n1):=hid (fun w3 g3=>R1.out.grown g3 (by simp;omega));have A1:=hid (A0.below bm);have AG:Hid (∀w3:World,((n3:World).drew).grownBy w3 (some V)->Ag w3 w n2):=hid (fun w3 g3=>A1.out.grown g3 (by simp;omega));clear hV bm A0 R0 T0;go_region_law(refine Ha _ (by rfl) _ _ (by rfl) w n4 f g (by rfl) OM a n cap f g (by rfl) TM lm s1 ?_;intro a3 c3 w3 o3 g3 v3;have O3:=hid o3;have G3:=hid g3;have RR:=hid (RG.out w3 g3);obtain⟨r0,r1⟩:=RR.out.two;have rf:=RR.out.jC;obtain⟨q0,q1⟩:=(AG w3 g3).two;clear o3 g3 v3)
 all_goals(
  have B3:Hid (Below w w w3):=hid (B1.out.trans (below_grown G3 B1.out.size (fun j hj=>by cases hj;show w.heap.size<=V.heap.size;omega)));have N3:=hid (O3.out.newL hn);clear G3 O3 OM TM RG x0 x1 y0 y1 q0 q1 AG A1;go_wp2;refine bodyPost_ret (VI _ _ (w.heap.size+1) (.int .i64 b) (.slice a3 n c3) ((RR.out.jB (i:=0) _).jB (i:=1) _) rfl) rfl ⟨⟨a3,n,c3,f,g⟩,rfl,⟨rfl,rfl,rfl⟩,?_,?_⟩
  ·refine N3.out.of (by simp) (fun q hq hn'=>?_);have q2:=N3.out.ne RR (by decide) q hq hn';iterate 2 rw[blk_setCell_other _ _ _ _ (by dsimp only;omega)]
  ·iterate 2 refine Below.setCell ?_ (by dsimp only;omega) _
   exact B3.out)
variable {w w':World}{a:Option Addr}{b n B lo hi:Nat}{row:Option Nat}{v:Value}{l:List Int}
theorem Dx{a b:World}{P:Nat}(h:a.grownBy b (some P))(i:Nat)(v:Value):a.grownBy (b.setCell ⟨P,i,none⟩ v) (some P):=
 ⟨h.os,h.tape,h.output,by rw[nblk_setCell];exact h.size,fun j hj hne=>(blk_setCell_other _ _ _ _ (by dsimp only;intro e;exact hne (by rw[e]))).trans (h.block j hj hne)⟩
theorem Cr(a:World)(P:Nat):a.grownBy a (some P):=⟨rfl,rfl,rfl,Nat.le_refl _,fun _ _ _=>rfl⟩
def Qn(w:World)(a:Option Addr)(b n:Nat):Prop:=0<n->a=some ⟨b,0,none⟩/\∃m F,n<=m/\w.rowIs b 2 m F
theorem Qn.below(h:Qn w a b n)(hb:Below w w w'):Qn w' a b n:=fun h0=>by
 obtain⟨e,m,F,hm,hr⟩:=h h0;exact⟨e,m,F,hm,hr.of_block (hb.block b hr.lt)⟩
theorem Qn.grown(h:Qn w a b n)(hg:w.grownBy w' row)(hne:some b≠row):Qn w' a b n:=fun h0=>by
 obtain⟨e,m,F,hm,hr⟩:=h h0;exact⟨e,m,F,hm,hr.of_block (hg.block b hr.lt hne)⟩
theorem Qn.lt(h:Qn w a b n)(h0:0<n):b<w.heap.size:=by
 obtain⟨_,m,F,_,hr⟩:=h h0;exact hr.lt
theorem Bi.grown{h:Nat->Int}(hc:Bi w a n h)(hr:Qn w a b n)(hg:w.grownBy w' row)(hne:0<n->some b≠row):Bi w' a n h:=fun h0=>by
 obtain⟨b',off,e,hlt,hcc⟩:=hc h0;obtain⟨e2,m,F,hm,hrow⟩:=hr h0;have e3:=e.symm.trans e2;simp only[Option.some.injEq,Addr.mk.injEq]at e3;obtain⟨rfl,_,_⟩:=e3;refine⟨b',off,e,Nat.lt_of_lt_of_le hlt hg.size,fun i hi=>?_⟩;have hb:=hg.block b' hlt (hne h0);exact(by simp only[World.cell?];rw[hb]:w'.cell? ⟨b',off+i,none⟩=w.cell? ⟨b',off+i,none⟩).trans (hcc i hi)
theorem AE.of_block(h:AE w B v l)(hb:∀g,v.ownBlock=some g->w'.heap[g]? =w.heap[g]?):AE w' B v l:=by
 refine⟨h.1,?_⟩;rcases h.2 with hn|⟨g,cap,cur,rfl,h1,h2,rest⟩
 ·exact .inl hn
 ·exact .inr ⟨g,cap,cur,rfl,h1,(hb g rfl).trans h2,rest⟩
theorem AE.below(h:AE w B v l)(hb:Below w w w'):AE w' B v l:=h.of_block fun g hg=>hb.block g (World.ownsRow.lt h g hg).2
theorem AE.mk(h:AE w B v l)(hm:Mk lo hi w w')(hb:∀g,v.ownBlock=some g->g<lo∨hi<=g):AE w' B v l:=h.of_block fun g hg=>hm.block g (World.ownsRow.lt h g hg).2 (hb g hg)
theorem Mk.below{w0:World}(h0:Below w0 w0 w)(h:Mk lo hi w w')(hB:w0.heap.size<=lo):Below w0 w0 w':=
 ⟨h.os.trans h0.os,h.tape.trans h0.tape,h.output.trans h0.output,Nat.le_trans h0.size h.size,fun k hk=>(h.block k (Nat.lt_of_lt_of_le hk h0.size) (.inl (by omega))).trans (h0.block k hk)⟩
variable {w:World}{B:Nat}
theorem Wk(tmps:Array Value)(W:World)(P:Nat)(x0 x1 x2 x3 x4 x5 x6:Value)(h:Ag W P (.cells #[x0,x1,x2,x3,x4,x5,x6] 42))(h2:tmps[2]? =some (.pointer P)):
 (results Tryz.f109 tmps).run prog W= .ok (.agg #[x0,x1,x2,x3,x4,x5,x6]) W:=by
 obtain⟨z0,z1,z2,z3,z4,z5,z6⟩:=h.seven;simp[results,Tryz.results109,go_sem,h2,z0,z1,z2,z3,z4,z5,z6]
theorem Dj{e size n c:Nat}{a:Option Addr}{xs:List Value}(h:w.ownsRow B e size (.slice a n c) n xs):n<=c/\c<=maxLen:=by
 rcases h.2 with⟨hv,hn⟩|⟨g,cap,cur,hv,_,_,h1,h2,_⟩
 ·simp only[Value.slice.injEq]at hv;exact⟨by omega,by rw[hv.2.2];exact Nat.zero_le _⟩
 ·simp only[Value.slice.injEq]at hv;rw[hv.2.2];exact⟨h1,h2⟩
theorem FR{ops:Array Oper}{o:Oper}{a:Act}{w:World}{K:Act->World->Prop}{Q:Exit->Act->World->Prop}{E:Prop}(hgd:o.guard=none)(s x:Operand)
 (ho:o.op= .call {callee:= .builtin .append,args:=#[s,x],argTypes:=#[40,40]})
 (B:Nat)(g:Nat)(hs:a.eval s= .slice g 0 0)(hown:AE w B (.slice g 0 0) [])(ad:Option Addr)(m c:Nat)(f:Nat->Int)(hx:a.eval x= .slice ad m c)(hc:Bi w ad m f)
 (hm:m<=1048576)(hB:B<=w.heap.size)
 (h:∀a' c' w',AH.new B w' ⟨a',m,c',f⟩->(m<=c'/\c'<=maxLen)->w.grownBy w' (some g)->K (a.put o.dst (.slice a' m c')) w'):
 if Region.wanted o (yielded ops a.tmps)=true then Oper.wp prog o a w K Q else E:=by
 have hw:Region.wanted o (yielded ops a.tmps)=true:=by simp[Region.wanted,hgd]
 rw[if_pos hw];have L0:=hc.intL;have el:((List.range m).map f).length=m:=by simp
 have L:Bn w ad m (((List.range m).map f).map (Value.int .i64)):=by unfold Dv at L0;rw[el]at L0;exact L0
 refine Dr underlying40 Tryz.info2 rfl (by omega) w s x ho B _ 0 [] hs hown ad m c (((List.range m).map f).map (Value.int .i64)) hx (by simp) L (fun u hu=>by obtain⟨y,_,rfl⟩:=List.mem_map.1 hu;rfl) (by omega) (by omega) hB fun a' c' w' h2 h3 _=>?_;rw[Nat.zero_add,List.nil_append]at h2;rw[Nat.zero_add];refine h a' c' w' ?_ (Dj h2) h3;have ho':AE w' B (.slice a' ((List.range m).map f).length c') ((List.range m).map f):=by unfold AE;rw[el];exact h2
 have hi:Bi w' a' m f:=fun h0=>by
  obtain⟨b,off,e,hlt,hcc⟩:=(AE.lies ho').ints (by rw[el];exact h0);refine⟨b,off,e,hlt,fun i hi=>?_⟩;have:=hcc i (by rw[el];exact hi);rw[this];simp[AV,hi]
 exact⟨⟨by unfold maxLen;simp only;omega,hi⟩,fun h0=>by have:=De h2 h0;simpa using this⟩
theorem M3{b m g:Nat}{F:Nat->Value}(hr:w.rowIs b 95 m F)(ho:AE w B (.slice g 0 0) []):b≠g:=fun e=>by
 obtain⟨cur,hb⟩:=KJ ho (g:=g) rfl;obtain⟨c,h1,_⟩:=hr;rw[e,hb]at h1;simp at h1
theorem Aq.new.over{w':World}{c:Aq}(h:c.new B w)(hs:w.heap.size<=w'.heap.size)(hb:∀b m F,w.rowIs b 95 m F->w'.heap[b]? =w.heap[b]?):c.new B w':=h.of hs (fun b e hn=>by
 obtain⟨b',m,F,e',_,_,hr⟩:=h.2 hn;rw[e]at e';cases e';exact hb b m F hr)
theorem Lr(t:Ae)(w:World)(ht:t.at w)(hs:t.small):
 Calls prog 109 #[t.val] w fun e w'=>∃u:Ae,e= .returned u.val/\t.same u/\u.new w w'/\(u.own.n<=u.own.k/\u.own.k<=maxLen)/\Below w w w':=by
 have n4:No (.cells #[.int .i64 0,.int .i64 0,.slice none 0 0,.int .i64 0,.slice none 0 0,.slice none 0 0,.int .i64 0] 42):=⟨⟩;have b0:Below w w ((w.alloc t.blk).alloc n4):=(Bd w _).alloc (by simp) _;have A0:=(Ag.new w t.blk).alloc n4;have R0:Ag ((w.alloc t.blk).alloc n4) (w.heap.size+1) n4:=by
  have:=Ag.new (w.alloc t.blk) n4;simpa using this
 have T0:=hid (ht.below b0);unfold Ae.blk at b0 A0 R0 T0;unfold Ae.val;obtain⟨x0,x1,x2,x3,x4,x5,x6⟩:=A0.seven;obtain⟨m1,m2,m3⟩:=hs;clear ht;unfold AH.val at *;go_enter func109,ntmps109
 go_wp2;have n5:No (.cells #[t.id,t.b1,t.c1.val,t.b2,t.c2.val,t.own,t.made] 42):=⟨⟩;generalize hV:((w.alloc n5).alloc n4)=V at *;have B0:=hid b0;have A0':Hid (∀W,Below V V W->Ag W w n5):=hid (fun W h=>A0.below h);have R0':=hid R0;have PA:Hid (∀W,Below V V W->Calls prog 114 #[.agg #[t.b1,t.c1.val]] W fun e w'=>∃d:Aq,e= .returned (.agg #[t.b1,d])/\t.c1.same d/\d.new W w'/\Below W W w'):=hid (fun W hW=>Cs t.b1 t.c1 W (T0.out.below hW).1 m1);have PB:Hid (∀W,Below V V W->Calls prog 114 #[.agg #[t.b2,t.c2.val]] W fun e w'=>∃d:Aq,e= .returned (.agg #[t.b2,d])/\t.c2.same d/\d.new W w'/\Below W W w'):=hid (fun W hW=>Cs t.b2 t.c2 W (T0.out.below hW).2.1 m2);have TO:Hid (∀W,Below V V W->Bi W t.own.a t.own.n t.own.h):=hid (fun W hW=>(T0.out.below hW).2.2.2);clear hV b0 A0 R0;have V0:Hid (Below V V V.drew):=hid (Below.refl _ V).drew;have V0a:Hid (Below V V ((V.alloc (.cells #[] 2)).drew)):=hid (Az (Bd V _));have EO0:Hid (AE ((V.alloc (.cells #[] 2)).drew) w (.slice (V) 0 0) []):=hid (AE.made V w B0.out.size);have Md:w.heap.size<V.heap.size:=(A0' V (Below.refl _ V)).lt;have nx0:¬w.heap.size=V.heap.size:=by omega
 obtain⟨y0,y1,y2,y3,y4,y5,y6⟩:=(A0' _ V0a).seven;have ne1:¬w.heap.size=w.heap.size+1:=by omega
 have ne2:¬w.heap.size+1=w.heap.size:=by omega
 have mk1:True:=trivial;have mk2:True:=trivial;go_region_held3(fun w'=>w'.cell? ⟨w,0,none⟩=some (.int .i64 t.id)/\w'.cell? ⟨w,1,none⟩=some (.int .i64 t.b1)/\w'.cell? ⟨w,2,none⟩=some t.c1.val/\w'.cell? ⟨w,3,none⟩=some (.int .i64 t.b2)/\w'.cell? ⟨w,4,none⟩=some t.c2.val/\w'.cell? ⟨w,5,none⟩=some (.slice t.own.a t.own.n t.own.k)/\w'.cell? ⟨w,6,none⟩=some (.int .i64 t.made)) (first|go_keep|(simp only[*,and_self]))
  (first
    |(go_at_call 114;have mq:=mk1;clear mk1;first|(refine(PA _ V0).mono ?_;rintro e w1 ⟨d1,rfl,s1,n1,h1⟩;have V1:=hid (Af V0 h1);have LN1:=hid (n1.low (Nat.le_trans B0.out.size V0.out.size));have S1:=hid s1;obtain⟨e0,e1,e2,e3,e4,e5,e6⟩:=(A0' _ V1).seven;have V1a:=hid (V1.out.alloc V1.out.size (.cells #[] 2));have lt1:w.heap.size<w1.heap.size:=(A0' _ V1).lt;have nx1:¬w.heap.size=w1.heap.size:=(by omega);obtain⟨p0,p1,p2,p3,p4,p5,p6⟩:=(A0' _ V1a).seven)|(refine(PA _ V0a).mono ?_;rintro e w1 ⟨d1,rfl,s1,n1,h1⟩;have V1:=hid (Af V0a h1);have LN1:=hid (n1.low (Nat.le_trans B0.out.size V0a.out.size));have S1:=hid s1;obtain⟨e0,e1,e2,e3,e4,e5,e6⟩:=(A0' _ V1).seven;have EO1:=hid (EO0.out.below h1);have V1a:=hid (V1.out.alloc V1.out.size (.cells #[] 2));have lt1:w.heap.size<w1.heap.size:=(A0' _ V1).lt;have nx1:¬w.heap.size=w1.heap.size:=(by omega);obtain⟨p0,p1,p2,p3,p4,p5,p6⟩:=(A0' _ V1a).seven))
    |(go_at_call 114;have mq':=mk2;clear mk2;first|(refine(PB _ V1).mono ?_;rintro e w2 ⟨d2,rfl,s2,n2,h2⟩;have V2:=hid (Af V1 h2);have LN2:=hid (n2.low (Nat.le_trans B0.out.size V1.out.size));have H12:=hid h2;have S2:=hid s2;obtain⟨f0,f1,f2,f3,f4,f5,f6⟩:=(A0' _ V2).seven;have EO2:=hid (EO1.out.below h2);have V2a:=hid (V2.out.alloc V2.out.size (.cells #[] 2));have lt2:w.heap.size<w2.heap.size:=(A0' _ V2).lt;have nx2:¬w.heap.size=w2.heap.size:=(by omega);obtain⟨r0,r1,r2,r3,r4,r5,r6⟩:=(A0' _ V2a).seven)|(refine(PB _ V1).mono ?_;rintro e w2 ⟨d2,rfl,s2,n2,h2⟩;have V2:=hid (Af V1 h2);have LN2:=hid (n2.low (Nat.le_trans B0.out.size V1.out.size));have H12:=hid h2;have S2:=hid s2;obtain⟨f0,f1,f2,f3,f4,f5,f6⟩:=(A0' _ V2).seven;have V2a:=hid (V2.out.alloc V2.out.size (.cells #[] 2));have lt2:w.heap.size<w2.heap.size:=(A0' _ V2).lt;have nx2:¬w.heap.size=w2.heap.size:=(by omega);obtain⟨r0,r1,r2,r3,r4,r5,r6⟩:=(A0' _ V2a).seven)|(have EOm:=hid (AE.made w1 w (Nat.le_trans B0.out.size V1.out.size));(refine(PB _ V1a).mono ?_;rintro e w2 ⟨d2,rfl,s2,n2,h2⟩;have V2:=hid (Af V1a h2);have LN2:=hid (n2.low (Nat.le_trans B0.out.size V1a.out.size));have H12:=hid (Af (Bd w1 (.cells #[] 2)) h2);have S2:=hid s2;obtain⟨f0,f1,f2,f3,f4,f5,f6⟩:=(A0' _ V2).seven;have EO2:=hid (EOm.out.below h2);have V2a:=hid (V2.out.alloc V2.out.size (.cells #[] 2));have lt2:w.heap.size<w2.heap.size:=(A0' _ V2).lt;have nx2:¬w.heap.size=w2.heap.size:=(by omega);obtain⟨r0,r1,r2,r3,r4,r5,r6⟩:=(A0' _ V2a).seven)))
    |(refine FR (by rfl) _ _ (by rfl) w V (by rfl) EO2 _ _ _ t.own.h (by rfl) (TO _ V2) m3 (V2.out.size |> Nat.le_trans B0.out.size) ?_;intro a3 c3 w3 n3 cp3 g3;have CAP:=hid cp3;clear cp3;have HB3:Hid (∀b m F,w2.rowIs b 95 m F->w3.heap[b]? =w2.heap[b]?):=hid (fun b m F hr=>g3.block b hr.lt (fun e=>M3 hr EO2 (Option.some.inj e)));have SZ3:=hid g3.size;have NG:Hid (∀k,k<V.heap.size->some k≠some V):=hid (fun k hk e=>Nat.lt_irrefl _ (Nat.lt_of_lt_of_le (Option.some.inj e▸hk) (Nat.le_refl _)));have B3:Hid (Below V V w3):=hid (V2.out.trans (below_grown g3 V2.out.size (fun j hj=>by cases hj;exact Nat.le_refl _)));have X3:=hid (V2.out);obtain⟨g0,g1,g2,g3',g4,g5,g6⟩:=(A0' _ B3).seven;obtain⟨k0,k1,k2,k3,k4,k5,k6⟩:=(R0'.out.below B3).seven;have kf:=(R0'.out.below B3).jC;have N3:=hid n3;have G3:=hid g3;clear n3 g3)
    |(refine FR (by rfl) _ _ (by rfl) w w1 (by rfl) EO2 _ _ _ t.own.h (by rfl) (TO _ V2) m3 (V2.out.size |> Nat.le_trans B0.out.size) ?_;intro a3 c3 w3 n3 cp3 g3;have CAP:=hid cp3;clear cp3;have HB3:Hid (∀b m F,w2.rowIs b 95 m F->w3.heap[b]? =w2.heap[b]?):=hid (fun b m F hr=>g3.block b hr.lt (fun e=>M3 hr EO2 (Option.some.inj e)));have SZ3:=hid g3.size;have NG:Hid (∀k,k<V.heap.size->some k≠some w1):=hid (fun k hk e=>Nat.lt_irrefl _ (Nat.lt_of_lt_of_le (Option.some.inj e▸hk) (V1.out.size)));have B3:Hid (Below V V w3):=hid (V2.out.trans (below_grown g3 V2.out.size (fun j hj=>by cases hj;exact V1.out.size)));have X3:=hid (V2.out);obtain⟨g0,g1,g2,g3',g4,g5,g6⟩:=(A0' _ B3).seven;obtain⟨k0,k1,k2,k3,k4,k5,k6⟩:=(R0'.out.below B3).seven;have kf:=(R0'.out.below B3).jC;have N3:=hid n3;have G3:=hid g3;clear n3 g3)
    |(refine FR (by rfl) _ _ (by rfl) w w2 (by rfl) (AE.made w2 w (Nat.le_trans B0.out.size V2.out.size)) _ _ _ t.own.h (by rfl) (TO _ V2a) m3 (V2a.out.size |> Nat.le_trans B0.out.size) ?_;intro a3 c3 w3 n3 cp3 g3;have CAP:=hid cp3;clear cp3;have HB3:Hid (∀b m F,w2.rowIs b 95 m F->w3.heap[b]? =w2.heap[b]?):=hid (fun b m F hr=>(g3.block b (Nat.lt_of_lt_of_le hr.lt ((Below.refl _ w2).alloc (Nat.le_refl _) (.cells #[] 2)).size) (fun e=>Nat.ne_of_lt hr.lt (Option.some.inj e))).trans (blk_alloc_lt _ _ _ hr.lt));have SZ3:=hid (Nat.le_trans ((Below.refl _ w2).alloc (Nat.le_refl _) (.cells #[] 2)).size g3.size);have NG:Hid (∀k,k<V.heap.size->some k≠some w2):=hid (fun k hk e=>Nat.lt_irrefl _ (Nat.lt_of_lt_of_le (Option.some.inj e▸hk) (V2.out.size)));have B3:Hid (Below V V w3):=hid (V2a.out.trans (below_grown g3 V2a.out.size (fun j hj=>by cases hj;exact V2.out.size)));have X3:=hid (V2a.out);obtain⟨g0,g1,g2,g3',g4,g5,g6⟩:=(A0' _ B3).seven;obtain⟨k0,k1,k2,k3,k4,k5,k6⟩:=(R0'.out.below B3).seven;have kf:=(R0'.out.below B3).jC;have N3:=hid n3;have G3:=hid g3;clear n3 g3))
 all_goals(
  have Q1:=hid ((LN1.out.below H12).over SZ3 HB3);have Q2:=hid (LN2.out.over SZ3 HB3);have BB:=hid (Af B0 B3);have RR:=hid (R0'.out.below B3);clear LN1 LN2 H12 HB3 SZ3 G3 NG X3 V0 V0a EO0 PA PB TO A0';go_wp2;refine bodyPost_ret (Wk _ _ (w.heap.size+1) (.int .i64 t.id) (.int .i64 t.b1) (.slice d1.a d1.n d1.k) (.int .i64 t.b2) (.slice d2.a d2.n d2.k) (.slice a3 t.own.n c3) (.int .i64 t.made) (Ag.all7 RR _ _ _ _ _ _ _) rfl) rfl ⟨⟨t.id,t.b1,d1,t.b2,d2,⟨a3,t.own.n,c3,t.own.h⟩,t.made⟩,rfl,⟨rfl,rfl,S1,rfl,S2,⟨rfl,rfl⟩,rfl⟩,⟨?_,?_,?_⟩,CAP,?_⟩
  ·refine Q1.out.of (by simp) (fun g hg hn'=>?_);have q2:=Q1.out.ne RR (by decide) g hg hn';iterate 7 rw[blk_setCell_other _ _ _ _ (by dsimp only;omega)]
  ·refine Q2.out.of (by simp) (fun g hg hn'=>?_);have q2:=Q2.out.ne RR (by decide) g hg hn';iterate 7 rw[blk_setCell_other _ _ _ _ (by dsimp only;omega)]
  ·refine N3.out.of (by simp) (fun g hg hn'=>?_);have q2:=N3.out.ne RR (by decide) g hg hn';iterate 7 rw[blk_setCell_other _ _ _ _ (by dsimp only;omega)]
  ·iterate 7 refine Below.setCell ?_ (by dsimp only;omega) _
   exact BB.out)
end Go.Proofs.YtbdagpckhfcneaaGreatDoor
