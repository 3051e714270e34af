import Derived.Test.YtdaccbddcjlkpaaGreatDoorZ3p
set_option maxRecDepth 100000
set_option maxHeartbeats 16000000
namespace Go.Proofs.YtdaccbddcjlkpaaGreatDoor
open Go Go.RowKit Go.Deep Go.Maps Go.BigFrame Go.Shelf Go.Proofs.Tryz
open Go.Value renaming slice→qV,int→iT
open Go.IntKind renaming i64→qH
open Go.Ending renaming returned→rT
open _root_.List renaming set→qF,range→qx,mem_map→jy,nil_append→zv
open _root_.Or renaming inl→kz
open _root_.Nat renaming le_trans→qj,zero_add→jx,zero_le→qy,lt_irrefl→kU
open Go.World renaming ownsRow_nil→zG
open _root_.ByteArray renaming mk→qD
open Go.RowKit renaming Below→qN
open Go renaming Calls→qP
theorem Kq(c:AJ)(w:World)(hc:c.at w)(hn:c.n<=1048576):
 qP prog 88 #[c.val] w fun e w'=>∃d:AJ,e= rT d.val/\(c.same d/\(d.n<=d.k/\d.k<=maxLen))/\d.new w w'/\qN w w w':=by
 obtain⟨a,n,cap,f⟩:=c;obtain⟨hm,hc⟩:=hc;unfold AJ.val;simp only at hm hc hn ⊢;have L0:=hc.intL;have el:((qx n).map f).length=n:=by simp
 have L:Hid (Bl w a n (((qx n).map f).map (Value.int .i64))):=qC (by unfold Ec at L0;rw[el]at L0;exact L0);clear hc L0;go_enter func88,ntmps88
 go_wp2_with(refine Cl underlying51 Tryz.info2 rfl qQ _ rfl _ _ rfl w (qV none 0 0) 0 [] rfl (zG _ _ _ _) a n cap (((qx n).map f).map (Value.int .i64)) rfl sI L (fun u hu=>by obtain⟨y,_,rfl⟩:=jy.1 hu;rfl) qQ qQ nr ?_;intro a3 c3 w3 o3 g3;rw[jx,zv]at o3;rw[jx])
 go_ret;have ho:AI w3 w (qV a3 ((qx n).map f).length c3) ((qx n).map f):=by unfold AI;rw[el];exact o3
 have hi:Bp w3 a3 n f:=fun h0=>by
  obtain⟨b,off,e,hlt,hcc⟩:=(AI.lies ho).ints (by rw[el];exact h0);refine⟨b,off,e,hlt,fun i hi=>?_⟩;have:=hcc i (by rw[el];exact hi);rw[this];simp[AZ,hi]
 exact⟨⟨a3,n,c3,f⟩,rfl,⟨⟨rfl,rfl⟩,Dj o3⟩,⟨⟨hm,hi⟩,fun h0=>by have:=DT o3 h0;simpa using this⟩,below_grown g3 nr (fun j hj=>by cases hj)⟩
def AE.tight(d:AE):Prop:=d.n=0->d.a=none/\d.k=0
theorem Qs(c:AE)(w:World)(hc:c.at w)(hn:c.n<=1048576):
 qP prog 89 #[c.val] w fun e w'=>∃d:AE,e= rT d.val/\((c.same d/\d.tight)/\(d.n<=d.k/\d.k<=maxLen))/\d.new w w'/\qN w w w':=by
 obtain⟨a,n,cap,f⟩:=c;obtain⟨hm,hc,hz⟩:=hc;unfold AE.val;simp only at hm hc hn hz ⊢;have L:=qC (Mm hc);have HZ:=qC hz;clear hc hz;by_cases h0:n=0
 ·subst h0;cases a;all_goals(
   go_enter func89,ntmps89
   go_wp2;go_ret;exact⟨⟨none,0,0,f⟩,rfl,⟨⟨⟨rfl,rfl⟩,fun _=>⟨rfl,rfl⟩⟩,⟨Nat.le_refl _,qy _⟩⟩,⟨⟨qy _,fun h=>absurd h (kU 0),HZ⟩,fun h=>absurd h (kU 0)⟩,Below.refl _ _⟩)
 go_enter func89,ntmps89
 go_wp2_with(refine Cl underlying57 Tryz.info9 rfl qQ _ rfl _ _ rfl w (qV none 0 0) 0 [] rfl (zG _ _ _ _) a n cap ((qx n).map (fun i=>Value.string (f i))) rfl sI L (fun u hu=>by obtain⟨y,_,rfl⟩:=jy.1 hu;rfl) qQ qQ nr ?_;intro a3 c3 w3 o3 g3;rw[jx,zv]at o3;rw[jx])
 go_ret;have hi:JL w3 a3 n f:=fun h0=>by
  obtain⟨b,off,e,hlt,hcc⟩:=Bl.own o3 h0;exact⟨b,off,e,hlt,fun i hi=>hcc i _ (by simp[hi])⟩
 exact⟨⟨a3,n,c3,f⟩,rfl,⟨⟨⟨rfl,rfl⟩,fun e=>absurd e (by simp only;omega)⟩,Dj o3⟩,⟨⟨hm,hi,HZ⟩,fun h0=>Ng o3 h0⟩,below_grown g3 nr (fun j hj=>by cases hj)⟩
theorem MK(t:Ae)(w:World)(ht:t.at w)(hs:t.small):
 qP prog 39 #[t.val] w fun e w'=>∃u:Ae,e= rT u.val/\t.same u/\u.new w w'/\(u.own.n<=u.own.k/\u.own.k<=maxLen)/\u.cb.Nodup/\qN w w w':=by
 have EG:∀args w,(callFunc 87 args).run prog w= .ok (.enter 87 args) w:=enters_of func87 kR rfl;have EH:∀args w,(callFunc 88 args).run prog w= .ok (.enter 88 args) w:=enters_of func88 kR rfl;have n4:No (.cells #[iT qH 0,iT qH 0,qV none 0 0,iT qH 0,qV none 0 0,qV none 0 0,iT qH 0] 53):=⟨⟩;have b0:qN w w ((w.alloc t.blk).alloc n4):=(Bg w _).alloc sI _;have A0:=(Ag.new w t.blk).alloc n4;have R0:Ag ((w.alloc t.blk).alloc n4) (w.heap.size+1) n4:=by
  have:=Ag.new (w.alloc t.blk) n4;simpa using this
 have T0:=qC (ht.below b0);unfold Ae.blk at b0 A0 R0 T0;unfold Ae.val;obtain⟨x0,x1,x2,x3,x4,x5,x6⟩:=A0.seven;obtain⟨m1,m2,m3⟩:=hs;clear ht;go_enter func39,ntmps39
 go_wp2;have n5:No (.cells #[t.id,t.b1,t.c1.val,t.b2,t.c2.val,t.own.val,t.made] 53):=⟨⟩;generalize hV:((w.alloc n5).alloc n4)=V at *;have B0:=qC b0;have A0':=qC A0;have R0':=qC R0;have PA:Hid (∀W,qN V V W->qP prog 87 #[.agg #[t.b1,t.c1.val]] W fun e w'=>∃v,e= rT v/\∃d:As,v= .agg #[t.b1,d.val]/\t.c1.same d/\d.new W w'/\qN W W w'):=qC (fun W hW=>(Bm t.b1 t.c1 W (T0.out.below hW).1 m1).mono fun e w' ⟨d,h1,h2,h3,h4⟩=>⟨_,h1,d,rfl,h2,h3,h4⟩);have PB:Hid (∀W,qN V V W->qP prog 87 #[.agg #[t.b2,t.c2.val]] W fun e w'=>∃v,e= rT v/\∃d:As,v= .agg #[t.b2,d.val]/\t.c2.same d/\d.new W w'/\qN W W w'):=qC (fun W hW=>(Bm t.b2 t.c2 W (T0.out.below hW).2.1 m2).mono fun e w' ⟨d,h1,h2,h3,h4⟩=>⟨_,h1,d,rfl,h2,h3,h4⟩);have PC:Hid (∀W,qN V V W->qP prog 88 #[t.own.val] W fun e w'=>∃v,e= rT v/\∃d:AJ,v=d.val/\(t.own.same d/\(d.n<=d.k/\d.k<=maxLen))/\d.new W w'/\qN W W w'):=qC (fun W hW=>(Kq t.own W (T0.out.below hW).2.2 m3).mono fun e w' ⟨d,h1,h2,h3,h4⟩=>⟨_,h1,d,rfl,h2,h3,h4⟩);have V0:Hid (qN V V V.drew):=qC (Below.refl _ V).drew;have Ad:Hid (Ag V.drew w n5):=qC A0;clear hV b0 A0 R0;have mk1:True:=trivial;have mk2:True:=trivial;go_region_law(first
  |(clear mk1;refine EJ qK 87 _ _ qK EG _ qK _ (PA _ V0) ?_;rintro v w1 ⟨d1,rfl,s1,n1,h1⟩;have V1:=qC (Af V0 h1);obtain⟨e0,e1,e2,e3,e4,e5,e6⟩:=(Ad.out.below h1).seven)
  |(clear mk2;refine EJ qK 87 _ _ qK EG _ qK _ (PB _ V1) ?_;rintro v w2 ⟨d2,rfl,s2,n2,h2⟩;have V2:=qC (Af V1 h2);obtain⟨f0,f1,f2,f3,f4,f5,f6⟩:=((Ad.out.below h1).below h2).seven)
  |(refine EJ qK 88 _ _ qK EH _ qK _ (PC _ V2) ?_;rintro v w3 ⟨d3,rfl,s3,n3,h3⟩;have V3:=qC (Af V2 h3);unfold As.val AJ.val;obtain⟨g0,g1,g2,g3,g4,g5,g6⟩:=(((Ad.out.below h1).below h2).below h3).seven;have gf:=(((Ad.out.below h1).below h2).below h3).jC))
 all_goals(
  have A3:=qC (((Ad.out.below h1).below h2).below h3);have R3:Hid (Ag w3 (w.heap.size+1) _):=qC (R0'.out.below V3);have ND:=qC (Dt n1.bs.1 n2.bs.1 (fun x hx=>(n1.bs.2 x hx).2) (fun x hx=>(n2.bs.2 x hx).1));have N1:=qC ((n1.below h2).below h3);have N2:=qC (n2.below h3);have N3:=qC n3;have S1:=qC s1;have S2:=qC s2;have S3:=qC s3;have B3:=qC (Af B0 V3);have L0:=qC (show w.heap.size<=V.drew.heap.size from B0.out.size);have L1:=qC (qj L0 h1.size);have L2:=qC (qj L1 h2.size);obtain⟨r0,r1,r2,r3,r4,r5,r6⟩:=R3.out.seven;have rf:=R3.out.jC;have ne1:¬w.heap.size+1=w.heap.size:=by omega
  have ne2:¬w.heap.size=w.heap.size+1:=by omega
  clear h1 h2 h3 n1 n2 n3 s1 s2 s3 e0 e1 e2 e3 e4 e5 e6 f0 f1 f2 f3 f4 f5 f6 x0 x1 x2 x3 x4 x5 x6 PA PB PC EG EH V0 V1 V2 V3 Ad;simp only[As.val,AJ.val]at g2 g4 g5;go_wp2;refine bodyPost_ret (Yf _ _ (w.heap.size+1) (iT qH t.id) (iT qH t.b1) (qV d1.a d1.n d1.k) (iT qH t.b2) (qV d2.a d2.n d2.k) (qV d3.a d3.n d3.k) (iT qH t.made) (Ag.all7 (((((R3.out.other qQ _).other qQ _).other qQ _).other qQ _).other qQ _) _ _ _ _ _ _ _) rfl) rfl ⟨⟨t.id,t.b1,d1,t.b2,d2,d3,t.made⟩,rfl,⟨rfl,rfl,S1,rfl,S2,S3.out.1,rfl⟩,⟨?_,?_,?_⟩,S3.out.2,ND,?_⟩
  ·refine(N1.out.low L0).of sI (fun g hg hn'=>?_);have q1:=N1.out.ne A3 qX g hg hn';have q2:=N1.out.ne R3 qX g hg hn';iterate 12 rw[blk_setCell_other _ _ _ _ qJ]
  ·refine(N2.out.low L1).of sI (fun g hg hn'=>?_);have q1:=N2.out.ne A3 qX g hg hn';have q2:=N2.out.ne R3 qX g hg hn';iterate 12 rw[blk_setCell_other _ _ _ _ qJ]
  ·refine(N3.out.low L2).of sI (fun g hg hn'=>?_);have q1:=N3.out.ne A3 qX g hg hn';have q2:=N3.out.ne R3 qX g hg hn';iterate 12 rw[blk_setCell_other _ _ _ _ qJ]
  ·iterate 12 refine Below.setCell ?_ qJ _
   exact B3.out)
theorem MO(t:Ab)(w:World)(ht:t.at w)(hs:t.small):
 qP prog 40 #[t.val] w fun e w'=>∃u:Ab,e= rT u.val/\t.same u/\u.new w w'/\(u.jA.n<=u.jA.k/\u.jA.k<=maxLen)/\(u.own.n<=u.own.k/\u.own.k<=maxLen)/\(u.cb.Nodup/\u.jA.tight)/\qN w w w':=by
 have EG:∀args w,(callFunc 87 args).run prog w= .ok (.enter 87 args) w:=enters_of func87 kR rfl;have EH:∀args w,(callFunc 88 args).run prog w= .ok (.enter 88 args) w:=enters_of func88 kR rfl;have EI:∀args w,(callFunc 89 args).run prog w= .ok (.enter 89 args) w:=enters_of func89 kR rfl;have b0:qN w w ((w.alloc t.blk).alloc FJ):=(Bg w _).alloc sI _;have A0:=(Ag.new w t.blk).alloc FJ;have R0:Ag ((w.alloc t.blk).alloc FJ) (w.heap.size+1) FJ:=by
  have:=Ag.new (w.alloc t.blk) FJ;simpa using this
 have T0:=qC (ht.below b0);unfold Ab.blk FJ at b0 A0 R0 T0;unfold Ab.val;obtain⟨x0,x1,x2,x3,x4,x5,x6,x7,x8,x9⟩:=A0.jE;obtain⟨m1,m2,m3,m4,m5⟩:=hs;clear ht;go_enter func40,ntmps40
 go_wp2;have n5:No (.cells #[t.id,t.kind,t.up,t.b1,t.c1.val,.string t.data,t.jA.val,t.own.val,t.b2,t.c2.val] 59):=⟨⟩;generalize hV:((w.alloc n5).alloc (.cells #[iT qH 0,iT qH 0,iT qH 0,iT qH 0,qV none 0 0,.string (qD #[]),qV none 0 0,qV none 0 0,iT qH 0,qV none 0 0] 59))=V at *;have B0:=qC b0;have A0':=qC A0;have R0':=qC R0;have PA:Hid (∀W,qN V V W->qP prog 87 #[.agg #[t.b1,t.c1.val]] W fun e w'=>∃v,e= rT v/\∃d:As,v= .agg #[t.b1,d.val]/\t.c1.same d/\d.new W w'/\qN W W w'):=qC (fun W hW=>(Bm t.b1 t.c1 W (T0.out.below hW).1 m1).mono fun e w' ⟨d,h1,h2,h3,h4⟩=>⟨_,h1,d,rfl,h2,h3,h4⟩);have PB:Hid (∀W,qN V V W->qP prog 87 #[.agg #[t.b2,t.c2.val]] W fun e w'=>∃v,e= rT v/\∃d:As,v= .agg #[t.b2,d.val]/\t.c2.same d/\d.new W w'/\qN W W w'):=qC (fun W hW=>(Bm t.b2 t.c2 W (T0.out.below hW).2.2.2.1 m5).mono fun e w' ⟨d,h1,h2,h3,h4⟩=>⟨_,h1,d,rfl,h2,h3,h4⟩);have PC:Hid (∀W,qN V V W->qP prog 88 #[t.own.val] W fun e w'=>∃v,e= rT v/\∃d:AJ,v=d.val/\(t.own.same d/\(d.n<=d.k/\d.k<=maxLen))/\d.new W w'/\qN W W w'):=qC (fun W hW=>(Kq t.own W (T0.out.below hW).2.2.1 m4).mono fun e w' ⟨d,h1,h2,h3,h4⟩=>⟨_,h1,d,rfl,h2,h3,h4⟩);have PD:Hid (∀W,qN V V W->qP prog 89 #[t.jA.val] W fun e w'=>∃v,e= rT v/\∃d:AE,v=d.val/\((t.jA.same d/\d.tight)/\(d.n<=d.k/\d.k<=maxLen))/\d.new W w'/\qN W W w'):=qC (fun W hW=>(Qs t.jA W (T0.out.below hW).2.1 m3.1).mono fun e w' ⟨d,h1,h2,h3,h4⟩=>⟨_,h1,d,rfl,h2,h3,h4⟩);have V0:Hid (qN V V V.drew):=qC (Below.refl _ V).drew;have Ad:Hid (Ag V.drew w n5):=qC A0;clear hV b0 A0 R0;have HS0:Ag V.drew w n5:=Ad.out;refine Am 13 (fun W=>Ag W w n5) kR ?_;have HS1:(fun W=>Ag W w n5) V.drew:=HS0;clear HS0;have n6:Nv (.pointer (some ⟨w,3,none⟩)):=⟨⟩;refine CL (i:=0) (d:=3) n6 rfl rfl kR kR kR kR kR kR (fun _ _ _ h=>h) (kz ⟨by rfl,fun W hSw=>by go_simp⟩) HS1 ?_;simp only[ap,qF];refine CL (i:=1) (d:=4) (.agg #[t.b1,t.c1.val]) rfl rfl kR kR kR kR kR kR (fun _ _ _ h=>h) (kz ⟨by rfl,fun W hSw=>by obtain⟨q0,q1,q2,q3,q4,q5,q6,q7,q8,q9⟩:=Ag.jE hSw;go_simp⟩) HS1 ?_;simp only[ap,qF];refine CL (i:=3) (d:=6) (.pointer (some ⟨w,8,none⟩)) rfl rfl kR kR kR kR kR kR (fun _ _ _ h=>h) (kz ⟨by rfl,fun W hSw=>by go_simp⟩) HS1 ?_;simp only[ap,qF];refine CL (i:=4) (d:=7) (.agg #[t.b2,t.c2.val]) rfl rfl kR kR kR kR kR kR (fun _ _ _ h=>h) (kz ⟨by rfl,fun W hSw=>by obtain⟨q0,q1,q2,q3,q4,q5,q6,q7,q8,q9⟩:=Ag.jE hSw;go_simp⟩) HS1 ?_;simp only[ap,qF];refine CL (i:=6) (d:=9) (.pointer (some ⟨w,7,none⟩)) rfl rfl kR kR kR kR kR kR (fun _ _ _ h=>h) (kz ⟨by rfl,fun W hSw=>by go_simp⟩) HS1 ?_;simp only[ap,qF];refine CL (i:=7) (d:=10) (t.own.val) rfl rfl kR kR kR kR kR kR (fun _ _ _ h=>h) (kz ⟨by rfl,fun W hSw=>by obtain⟨q0,q1,q2,q3,q4,q5,q6,q7,q8,q9⟩:=Ag.jE hSw;go_simp⟩) HS1 ?_;simp only[ap,qF];refine CL (i:=9) (d:=12) (.pointer (some ⟨w,6,none⟩)) rfl rfl kR kR kR kR kR kR (fun _ _ _ h=>h) (kz ⟨by rfl,fun W hSw=>by go_simp⟩) HS1 ?_;simp only[ap,qF];refine CL (i:=10) (d:=13) (t.jA.val) rfl rfl kR kR kR kR kR kR (fun _ _ _ h=>h) (kz ⟨by rfl,fun W hSw=>by obtain⟨q0,q1,q2,q3,q4,q5,q6,q7,q8,q9⟩:=Ag.jE hSw;go_simp⟩) HS1 ?_;simp only[ap,qF];refine Ac (i:=2) kR rfl ?_;intro K hK;refine An qK 87 _ _ qK EG _ qK (some 5) qK _ (PA _ V0) ?_;rintro v w1 ⟨d1,rfl,s1,n1,h1⟩;refine hK _ _ (fun _=>Ag.below HS1 h1) ?_;have V1:=qC (Af V0 h1);have HS2:(fun W=>Ag W w n5) w1:=Ag.below HS1 h1;clear hK K HS1;try simp only[ap,qF]
 refine CL (i:=12) (d:=15) n6 rfl rfl kR kR kR kR kR kR (fun _ _ _ h=>h) (kz ⟨by rfl,fun W hSw=>by go_simp⟩) HS2 ?_;simp only[ap,qF];refine Ac (i:=5) kR rfl ?_;intro K hK;refine An qK 87 _ _ qK EG _ qK (some 8) qK _ (PB _ V1) ?_;rintro v w2 ⟨d2,rfl,s2,n2,h2⟩;refine hK _ _ (fun _=>Ag.below HS2 h2) ?_;have V2:=qC (Af V1 h2);have HS3:(fun W=>Ag W w n5) w2:=Ag.below HS2 h2;clear hK K HS2;try simp only[ap,qF]
 refine Ac (i:=8) kR rfl ?_;intro K hK;refine An qK 88 _ _ qK EH _ qK (some 11) qK _ (PC _ V2) ?_;rintro v w3 ⟨d3,rfl,s3,n3,h3⟩;refine hK _ _ (fun _=>Ag.below HS3 h3) ?_;have V3:=qC (Af V2 h3);have HS4:(fun W=>Ag W w n5) w3:=Ag.below HS3 h3;clear hK K HS3;try simp only[ap,qF]
 refine Ac (i:=11) kR rfl ?_;intro K hK;refine An qK 89 _ _ qK EI _ qK (some 14) qK _ (PD _ V3) ?_;rintro v w4 ⟨d4,rfl,s4,n4,h4⟩;refine hK _ _ (fun _=>Ag.below HS4 h4) ?_;have V4:=qC (Af V3 h4);have HS5:(fun W=>Ag W w n5) w4:=Ag.below HS4 h4;clear hK K HS4;try simp only[ap,qF]
 unfold As.val AJ.val AE.val;obtain⟨g0,g1,g2,g3,g4,g5,g6,g7,g8,g9⟩:=Ag.jE HS5;have gf:=Ag.jC HS5;simp only[As.val,AJ.val,AE.val]at g4 g6 g7 g9;refine oO 13 ?_;try simp only[ap,qF]
 refine oO 14 ?_;try simp only[ap,qF]
 refine oO 15 ?_;try simp only[ap,qF]
 refine oO 16 ?_;try simp only[ap,qF]
 refine oO 17 ?_;try simp only[ap,qF]
 refine oO 18 ?_;try simp only[ap,qF]
 refine oO 19 ?_;try simp only[ap,qF]
 refine Ai kR ?_ _;have A3:=qC HS5;have R3:Hid (Ag w4 (w.heap.size+1) _):=qC (R0'.out.below V4);have ND:=qC (Dt n1.bs.1 n2.bs.1 (fun x hx=>(n1.bs.2 x hx).2) (fun x hx=>(n2.bs.2 x hx).1));have N1:=qC (((n1.below h2).below h3).below h4);have N2:=qC ((n2.below h3).below h4);have N3:=qC (n3.below h4);have N4:=qC n4;have S1:=qC s1;have S2:=qC s2;have S3:=qC s3;have S4:=qC s4;have B3:=qC (Af B0 V4);have L0:=qC (show w.heap.size<=V.drew.heap.size from B0.out.size);have L1:=qC (qj L0 h1.size);have L2:=qC (qj L1 h2.size);have L3:=qC (qj L2 h3.size);obtain⟨r0,r1,r2,r3,r4,r5,r6,r7,r8,r9⟩:=R3.out.jE;have rf:=R3.out.jC;have ne1:¬w.heap.size+1=w.heap.size:=by omega
 have ne2:¬w.heap.size=w.heap.size+1:=by omega
 clear h1 h2 h3 h4 n1 n2 n3 n4 s1 s2 s3 s4 x0 x1 x2 x3 x4 x5 x6 x7 x8 x9 PA PB PC PD EG EH EI V0 V1 V2 V3 V4 Ad HS5;go_wp2;refine bodyPost_ret (YA _ _ (w.heap.size+1) (iT qH t.id) (iT qH t.kind) (iT qH t.up) (iT qH t.b1) (qV d1.a d1.n d1.k) (.string t.data) (qV d4.a d4.n d4.k) (qV d3.a d3.n d3.k) (iT qH t.b2) (qV d2.a d2.n d2.k) (Ag.all10 ((((((R3.out.other qQ _).other qQ _).other qQ _).other qQ _).other qQ _).other qQ _) _ _ _ _ _ _ _ _ _ _) rfl) rfl ⟨⟨t.id,t.kind,t.up,t.b1,d1,t.data,d4,d3,t.b2,d2⟩,rfl,⟨rfl,rfl,rfl,rfl,S1,rfl,S4.out.1.1,S3.out.1,rfl,S2⟩,⟨?_,?_,?_,?_⟩,S4.out.2,S3.out.2,⟨ND,S4.out.1.2⟩,?_⟩
 ·refine(N1.out.low L0).of sI (fun g hg hn'=>?_);have q1:=N1.out.ne A3 qX g hg hn';have q2:=N1.out.ne R3 qX g hg hn';iterate 16 rw[blk_setCell_other _ _ _ _ qJ]
 ·refine(N4.out.low L3).of sI (fun g hg hn'=>?_);have q1:=N4.out.ne A3 qX g hg hn';have q2:=N4.out.ne R3 qX g hg hn';iterate 16 rw[blk_setCell_other _ _ _ _ qJ]
 ·refine(N3.out.low L2).of sI (fun g hg hn'=>?_);have q1:=N3.out.ne A3 qX g hg hn';have q2:=N3.out.ne R3 qX g hg hn';iterate 16 rw[blk_setCell_other _ _ _ _ qJ]
 ·refine(N2.out.low L1).of sI (fun g hg hn'=>?_);have q1:=N2.out.ne A3 qX g hg hn';have q2:=N2.out.ne R3 qX g hg hn';iterate 16 rw[blk_setCell_other _ _ _ _ qJ]
 ·iterate 16 refine Below.setCell ?_ qJ _
  exact B3.out
open Go.Obj renaming cells→qG
open _root_.List renaming not_mem_nil→kM
open _root_.Nat renaming not_lt_zero→xM,lt_of_lt_of_le→qv
open Go renaming World→qM
def Ls(lo:List Ab):Prop:=∀x∈lo,x.jA.tight
theorem Ls.add{lo:List Ab}{u:Ab}(h:Ls lo)(hu:u.jA.tight):Ls (lo++[u]):=fun x hx=>by
 rcases List.mem_append.1 hx with hx|hx
 ·exact h x hx
 ·rw[List.mem_singleton.1 hx];exact hu
theorem Gx(k:Av)(w:qM)(hk:k.at w)(hs:k.small):
 Calls prog 14 #[k.val] w fun e w'=>∃(lt:List Ae) (lo:List Ab) (ta oa:Option Addr) (ca co:Nat),e= .returned (.agg #[qV ta lt.length ca,qV oa lo.length co])/\Bz w' w (qV ta lt.length ca) (qV oa lo.length co) lt lo/\Apart lt lo/\Ls lo/\k.same (Df ta ca oa co lt lo)/\Below w w w':=by
 have HT:=qC hk.2.2.1;have HO:=qC hk.2.2.2;have SMALL:=qC hs;obtain⟨ta0,tn,tk,T,oa0,onn,okk,O⟩:=k;simp only[Av.small]at HT HO SMALL;have n4:No (qG #[qV none 0 0,qV none 0 0] 27):=⟨⟩;have n5:No (qG #[qV ta0 tn tk,qV oa0 onn okk] 27):=⟨⟩;have n8:Nw (((w.alloc n5).alloc n4).alloc n4):=⟨⟩;have b0:Below w w n8:=((Bg w _).alloc sI _).alloc sO _;have S0:Hid (KU w (Av.mk ta0 tn tk T oa0 onn okk O) n8 (qV none 0 0) (qV none 0 0) [] []):=qC ⟨⟨Du.nil _ _,AW.nil _ _,fun x hx=>absurd hx kM,fun x hx=>absurd hx kM,fun x hx=>absurd hx kM,fun x hx=>absurd hx kM⟩,fun i hi=>absurd hi (xM i),fun i hi=>absurd hi (xM i),((Ag.new w n5).alloc _).alloc _,(by have:=(Ag.new (w.alloc n5) n4).alloc n4;simpa using this),(by have:=Ag.new ((w.alloc n5).alloc n4) n4;simpa using this),b0⟩;clear hk hs b0;unfold Av.val;go_enter func14,ntmps14
 go_wp2;go_loopw [11] (fun i wr=>∃(lt:List Ae) (ta:Option Addr) (ca:Nat),lt.length<=tn/\i= iT qH lt.length/\KU w (Av.mk ta0 tn tk T oa0 onn okk O) wr (qV ta lt.length ca) (qV none 0 0) lt []/\Apart lt []) (fun i _=>tn-(intOf i).toNat)
 case atStart=>exact⟨[],none,0,qy _,rfl,S0,Apart.nil⟩
 case round=>
  clear S0;obtain⟨lt,ta,ca,hl,rfl,st,ap⟩:=hrel;have S1:=qC st;have AP1:=qC ap;clear st ap;by_cases hlt:lt.length<tn
  ·have i1:(lt.length:Int)<(tn:Int):=qQ;have i0:(0:Int)<=(lt.length:Int):=qQ;obtain⟨b,off,ea,hbl,hc⟩:=HT.out qQ;subst ea;have n3:Na #[iT qH (T lt.length).id,iT qH (T lt.length).b1,qV (T lt.length).c1.a (T lt.length).c1.n (T lt.length).c1.k,iT qH (T lt.length).b2,qV (T lt.length).c2.a (T lt.length).c2.n (T lt.length).c2.k,qV (T lt.length).own.a (T lt.length).own.n (T lt.length).own.k,iT qH (T lt.length).made]:=⟨⟩;have n6:Nw (wr.alloc (qG n3 53)):=⟨⟩;have bd:Below wr wr (n6:qM).drew:=(Bg wr (qG n3 53)).drew;have SD:=qC (S1.out.below bd);have CC:FA wr b (off+lt.length*7) (T lt.length):=(hc lt.length hlt).1.below hbl S1.out.be;have q0:wr.cell? ⟨b,off+lt.length*7,none⟩=some (iT qH (T lt.length).id):=CC.c0;have q1:wr.cell? ⟨b,off+lt.length*7+1,none⟩=some (iT qH (T lt.length).b1):=CC.c1;have q2:wr.cell? ⟨b,off+lt.length*7+2,none⟩=some (qV (T lt.length).c1.a (T lt.length).c1.n (T lt.length).c1.k):=CC.c2;have q3:wr.cell? ⟨b,off+lt.length*7+3,none⟩=some (iT qH (T lt.length).b2):=CC.c3;have q4:wr.cell? ⟨b,off+lt.length*7+4,none⟩=some (qV (T lt.length).c2.a (T lt.length).c2.n (T lt.length).c2.k):=CC.c4;have q5:wr.cell? ⟨b,off+lt.length*7+5,none⟩=some (qV (T lt.length).own.a (T lt.length).own.n (T lt.length).own.k):=CC.c5;have q6:wr.cell? ⟨b,off+lt.length*7+6,none⟩=some (iT qH (T lt.length).made):=CC.c6;have hbw:b<wr.heap.size:=qv hbl S1.out.be.size;obtain⟨a0,a1⟩:=S1.out.a.two;obtain⟨x0,x1⟩:=SD.out.a.two;obtain⟨y0,y1⟩:=SD.out.o.two;simp only at a0 a1 x0 x1;have CP:Hid (Calls prog 39 #[.agg n3] (n6:qM).drew fun e w'=>∃v,e= .returned v/\(∃u:Ae,v= .agg u/\(T lt.length).same u/\u.new (n6:qM).drew.heap.size w'/\(u.own.n<=u.own.k/\u.own.k<=maxLen)/\u.cb.Nodup/\Below (n6:qM).drew.heap.size (n6:qM).drew w')):=qC ((MK (T lt.length) (n6:qM).drew ((hc lt.length hlt).2.below SD.out.be) (SMALL.out.1.2 lt.length hlt)).mono fun _ _ ⟨u,e1,h1,h2,h3,h5,h4⟩=>⟨_,e1,u,rfl,h1,h2,h3,h5,h4⟩);have EG:Hid (∀args w,(callFunc 39 args).run prog w= .ok (.enter 39 args) w):=qC (enters_of func39 kR rfl);have BX:=qC (show Ag (n6:qM).drew wr (qG n3 53) from Ag.new wr (qG n3 53));obtain⟨p0,p1,p2,p3,p4,p5,p6⟩:=BX.out.seven;have lm:lt.length<=1048576:=(by have:=SMALL.out.1.1;omega);clear hc CC bd;have sz0:=S1.out.be.size;go_wp2_with fail
   go_region_law(first
    |(refine EJ qK 39 _ _ qK EG _ qK _ CP ?_;rintro v w5 ⟨u,rfl,su,nu,cu,du,b5⟩;have CU:=qC cu;have AU:=qC (AP1.out.addT SD.out.st nu nr du);have S5:=qC (SD.out.below b5);have S5a:=qC ((SD.out.below b5).below (Bg w5 (qG u 53)));have N5:=qC ((nu.low SD.out.be.size).keeps (Dk.of_below (Bg w5 (qG u 53))).l);have SU:=qC su;have ONE:Hid (Bl (w5.alloc (qG u 53)) (some ⟨w5,0,none⟩) 1 (Cn [u])):=qC (Du.one w5 u);have s5:w.heap.size<=(w5.alloc (qG u 53)).heap.size:=S5a.out.be.size;obtain⟨m0,m1⟩:=S5.out.o.two;obtain⟨n0,n1⟩:=S5a.out.o.two;clear su nu b5 cu du)
    |(refine Jj qK _ _ qK w (qV ta lt.length ca) lt qK S5a.out.st.t _ _ u qK ONE lm s5 ?_;intro a7 c7 w7 o7 g7;have AD:=S5a.out.addT o7 g7 N5 SU CU.out;have S7:=qC AD.2;obtain⟨z0,z1⟩:=AD.1.two;have zf:=AD.1.jC;clear AD o7 g7))
   all_goals(
    clear p0 p1 p2 p3 p4 p5 p6 m0 m1 n0 n1 x0 x1 y0 y1 q0 q1 q2 q3 q4 q5 q6 a0 a1;go_wp2;go_roundw;case rel=>exact⟨lt++[u],a7,c7,by simp;omega,by first|go_num|(congr 1;simp),by rw[show(lt++[u]).length=lt.length+1 from by simp];exact S7.out,AU⟩
    case measure=>simp[intOf];omega)
  ·have i1:¬(lt.length:Int)<(tn:Int):=qQ;have ET:Hid (lt.length=tn):=qC qQ;obtain⟨a0,a1⟩:=S1.out.a.two;simp only at a0 a1;have ST:=S1;have APT:=AP1;clear S1 AP1;go_wp2;clear a0 a1 i1 hlt hl;go_loopw [26] (fun i wr=>∃(lo:List Ab) (oa:Option Addr) (co:Nat),lo.length<=onn/\i= iT qH lo.length/\KU w (Av.mk ta0 tn tk T oa0 onn okk O) wr (qV ta lt.length ca) (qV oa lo.length co) lt lo/\Apart lt lo/\Ls lo) (fun i _=>onn-(intOf i).toNat)
   case atStart=>exact⟨[],none,0,qy _,rfl,ST,APT,fun x hx=>by cases hx⟩
   case round=>
    clear ST APT;obtain⟨lo,oa,co,hl,rfl,st,ap,ti⟩:=hrel;have TI1:=qC ti;clear ti;have S1:=qC st;have AP1:=qC ap;clear st ap;by_cases hlt:lo.length<onn
    ·have i1:(lo.length:Int)<(onn:Int):=qQ;have i0:(0:Int)<=(lo.length:Int):=qQ;obtain⟨b,off,ea,hbl,hc⟩:=HO.out qQ;subst ea;have n2:Na #[iT qH (O lo.length).id,iT qH (O lo.length).kind,iT qH (O lo.length).up,iT qH (O lo.length).b1,qV (O lo.length).c1.a (O lo.length).c1.n (O lo.length).c1.k,.string (O lo.length).data,qV (O lo.length).jA.a (O lo.length).jA.n (O lo.length).jA.k,qV (O lo.length).own.a (O lo.length).own.n (O lo.length).own.k,iT qH (O lo.length).b2,qV (O lo.length).c2.a (O lo.length).c2.n (O lo.length).c2.k]:=⟨⟩;have n7:Nw (wr.alloc (qG n2 59)):=⟨⟩;have bd:Below wr wr (n7:qM).drew:=(Bg wr (qG n2 59)).drew;have SD:=qC (S1.out.below bd);have CC:Di wr b (off+lo.length*10) (O lo.length):=(hc lo.length hlt).1.below hbl S1.out.be;have q0:wr.cell? ⟨b,off+lo.length*10,none⟩=some (iT qH (O lo.length).id):=CC.c0;have q1:wr.cell? ⟨b,off+lo.length*10+1,none⟩=some (iT qH (O lo.length).kind):=CC.c1;have q2:wr.cell? ⟨b,off+lo.length*10+2,none⟩=some (iT qH (O lo.length).up):=CC.c2;have q3:wr.cell? ⟨b,off+lo.length*10+3,none⟩=some (iT qH (O lo.length).b1):=CC.c3;have q4:wr.cell? ⟨b,off+lo.length*10+4,none⟩=some (qV (O lo.length).c1.a (O lo.length).c1.n (O lo.length).c1.k):=CC.c4;have q5:wr.cell? ⟨b,off+lo.length*10+5,none⟩=some (.string (O lo.length).data):=CC.c5;have q6:wr.cell? ⟨b,off+lo.length*10+6,none⟩=some (qV (O lo.length).jA.a (O lo.length).jA.n (O lo.length).jA.k):=CC.c6;have q7:wr.cell? ⟨b,off+lo.length*10+7,none⟩=some (qV (O lo.length).own.a (O lo.length).own.n (O lo.length).own.k):=CC.c7;have q8:wr.cell? ⟨b,off+lo.length*10+8,none⟩=some (iT qH (O lo.length).b2):=CC.c8;have q9:wr.cell? ⟨b,off+lo.length*10+9,none⟩=some (qV (O lo.length).c2.a (O lo.length).c2.n (O lo.length).c2.k):=CC.c9;have hbw:b<wr.heap.size:=qv hbl S1.out.be.size;obtain⟨a0,a1⟩:=S1.out.a.two;obtain⟨x0,x1⟩:=SD.out.a.two;obtain⟨y0,y1⟩:=SD.out.o.two;simp only at a0 a1 x0 x1;have CP:Hid (Calls prog 40 #[.agg n2] (n7:qM).drew fun e w'=>∃v,e= .returned v/\(∃u:Ab,v= .agg u/\(O lo.length).same u/\u.new (n7:qM).drew.heap.size w'/\(u.jA.n<=u.jA.k/\u.jA.k<=maxLen)/\(u.cb.Nodup/\u.jA.tight)/\Below (n7:qM).drew.heap.size (n7:qM).drew w')):=qC ((MO (O lo.length) (n7:qM).drew ((hc lo.length hlt).2.below SD.out.be) (SMALL.out.2.2 lo.length hlt)).mono fun _ _ ⟨u,e1,h1,h2,h3,_,h5,h4⟩=>⟨_,e1,u,rfl,h1,h2,h3,h5,h4⟩);have EG:Hid (∀args w,(callFunc 40 args).run prog w= .ok (.enter 40 args) w):=qC (enters_of func40 kR rfl);have BX:=qC (show Ag (n7:qM).drew wr (qG n2 59) from Ag.new wr (qG n2 59));obtain⟨p0,p1,p2,p3,p4,p5,p6,p7,p8,p9⟩:=BX.out.jE;have lm:lo.length<=1048576:=(by have:=SMALL.out.2.1;omega);clear hc CC bd;have sz0:=S1.out.be.size;go_wp2_with fail
     go_region_law(first
      |(refine EJ qK 40 _ _ qK EG _ qK _ CP ?_;rintro v w5 ⟨u,rfl,su,nu,cu,du,b5⟩;have CU:=qC cu;have AU:=qC (AP1.out.addO SD.out.st nu nr du.1);have TU:=qC (TI1.out.add du.2);have S5:=qC (SD.out.below b5);have S5a:=qC ((SD.out.below b5).below (Bg w5 (qG u 59)));have N5:=qC ((nu.low SD.out.be.size).keeps (Dk.of_below (Bg w5 (qG u 59))).l);have SU:=qC su;have ONE:Hid (Bl (w5.alloc (qG u 59)) (some ⟨w5,0,none⟩) 1 (Ax [u])):=qC (AW.one w5 u);have s5:w.heap.size<=(w5.alloc (qG u 59)).heap.size:=S5a.out.be.size;obtain⟨m0,m1⟩:=S5.out.o.two;obtain⟨n0,n1⟩:=S5a.out.o.two;clear su nu b5 cu du)
      |(refine GH qK _ _ qK w (qV oa lo.length co) lo qK S5a.out.st.o _ _ u qK ONE lm s5 ?_;intro a7 c7 w7 o7 g7;have AD:=S5a.out.addO o7 g7 N5 SU CU.out;have S7:=qC AD.2;obtain⟨z0,z1⟩:=AD.1.two;have zf:=AD.1.jC;clear AD o7 g7))
     all_goals(
      clear p0 p1 p2 p3 p4 p5 p6 p7 p8 p9 m0 m1 n0 n1 x0 x1 y0 y1 q0 q1 q2 q3 q4 q5 q6 q7 q8 q9 a0 a1;go_wp2;go_roundw;case rel=>exact⟨lo++[u],a7,c7,by simp;omega,by first|go_num|(congr 1;simp),by rw[show(lo++[u]).length=lo.length+1 from by simp];exact S7.out,AU,TU⟩
      case measure=>simp[intOf];omega)
    ·have el:lo.length=onn:=qQ;have i1:¬(lo.length:Int)<(onn:Int):=qQ;have EL:=qC el;obtain⟨a0,a1⟩:=S1.out.a.two;simp only at a0 a1;obtain⟨y0,y1⟩:=S1.out.o.two;obtain⟨r0,r1⟩:=S1.out.r.two;have rf:=S1.out.r.jC;clear el;go_wp2;refine bodyPost_ret (Ih _ _ (w.heap.size+1) 2 _ _ Tryz.results14 ((S1.out.r.jB (i:=0) _).jB (i:=1) _) rfl) rfl ⟨lt,lo,ta,oa,ca,co,rfl,(S1.out.st.set S1.out.r (.inl rfl) _).set (S1.out.r.jB (i:=0) _) (.inl rfl) _,AP1,TI1,⟨ET,fun j hj=>S1.out.st1 j (by rw[ET.out];exact hj),EL,fun j hj=>S1.out.so1 j (by rw[EL.out];exact hj)⟩,?_⟩;exact(S1.out.be.setCell qJ _).setCell qJ _
open Go.World renaming ownsRow→qq
open _root_.List renaming mem_cons→kK,mem_cons_self→kV,mem_cons_of_mem→xV,length_cons→kB,mem_singleton→kJ
variable {o:Ab}{k:Av}{j:Nat}{l:List Ab}
def Bs(o:Ab):List Ab->List Ab
 |[]=>[o]
 |x::r=>if o.id<x.id then o::x::r else x::Bs o r
theorem QP:∀{a b:List Ab},(∃y∈a,o.id<y.id)->Bs o (a++b)=Bs o a++b
 |[],b,h=>by obtain⟨y,hy,_⟩:=h;exact absurd hy kM
 |x::a,b,h=>by
  show Bs o (x::(a++b))=Bs o (x::a)++b;unfold Bs;split
  ·rfl
  ·rename_i hx;obtain⟨y,hy,hl⟩:=h;rcases kK.1 hy with rfl|hy
   ·exact absurd hl hx
   ·rw[QP ⟨y,hy,hl⟩];rfl
theorem MA:∀{a b:List Ab},(∀y∈a,¬o.id<y.id)->Bs o (a++b)=a++Bs o b
 |[],b,_=>rfl
 |x::a,b,h=>by
  show Bs o (x::(a++b))=_;rw[Bs,if_neg (h x kV),MA (fun y hy=>h y (xV _ hy))];rfl
theorem LF:∀{a:List Ab},(Bs o a).length=a.length+1
 |[]=>rfl
 |x::a=>by
  unfold Bs;split
  ·simp
  ·rw[kB,LF,kB]
theorem LG{x:Ab}:∀{a:List Ab},x∈Bs o a->x=o∨x∈a
 |[],h=> .inl (kJ.1 h)
 |y::a,h=>by
  unfold Bs at h;split at h
  ·rcases kK.1 h with h|h
   ·exact .inl h
   ·exact .inr h
  ·rcases kK.1 h with h|h
   ·exact .inr (h▸kV)
   ·rcases LG h with h|h
    ·exact .inl h
    ·exact .inr (xV _ h)
def Av.oL(k:Av)(j:Nat):List Ab:=(List.range j).map k.O
theorem J9(k:Av)(j:Nat):k.oL (j+1)=k.oL j++[k.O j]:=by unfold Av.oL;rw[List.range_succ,List.map_append];rfl
theorem Zy(k:Av)(j:Nat):(k.oL j).length=j:=by simp[Av.oL]
def MU(k:Av)(o:Ab)(j:Nat):Bool->List Ab->Prop
 |false,l=>l=k.oL j/\∀y∈k.oL j,¬o.id<y.id
 |true,l=>l=Bs o (k.oL j)/\∃y∈k.oL j,o.id<y.id
theorem Ws(h:MU k o j false l)(hx:¬o.id<(k.O j).id):MU k o (j+1) false (l++[k.O j]):=by
 refine⟨by rw[J9,h.1],fun y hy=>?_⟩;rw[J9]at hy;rcases List.mem_append.1 hy with hy|hy
 ·exact h.2 y hy
 ·rw[kJ.1 hy];exact hx
theorem Yo(h:MU k o j false l)(hx:o.id<(k.O j).id):MU k o (j+1) true (l++[o]++[k.O j]):=by
 refine⟨?_,k.O j,by rw[J9];exact List.mem_append_right _ kV,hx⟩;rw[J9,MA h.2,h.1,Bs,if_pos hx,List.append_assoc];rfl
theorem Wi(h:MU k o j true l):MU k o (j+1) true (l++[k.O j]):=by
 obtain⟨h1,y,hy,hl⟩:=h;refine⟨by rw[J9,QP ⟨y,hy,hl⟩,h1],y,by rw[J9];exact List.mem_append_left _ hy,hl⟩
theorem Xm:∀{b:Bool}{l:List Ab},MU k o j b l->l.length<=j+1
 |false,_,h=>by rw[h.1,Zy];omega
 |true,_,h=>by rw[h.1,LF,Zy];omega
theorem YM(k:Av)(o:Ab)(w:World)(hk:k.at w)(hn:k.on<=1048000):
 Calls prog 96 #[k.val,.agg o] w fun e w'=>∃(oa:Option Addr) (co:Nat),e= .returned (.agg #[qV k.ta k.tn k.tk,qV oa (Bs o (k.oL k.on)).length co])/\AW w' w (qV oa (Bs o (k.oL k.on)).length co) (Bs o (k.oL k.on))/\qN w w w':=by
 have n4:No (qG o 59):=⟨⟩;have n7:No (qG #[qV k.ta k.tn k.tk,qV k.oa k.on k.ok] 27):=⟨⟩;have n8:No (qG #[qV none 0 0,qV none 0 0] 27):=⟨⟩;have n1:Nw (((w.alloc n7).alloc n4).alloc n8):=⟨⟩;have b0:qN w w n1:=((Bg w _).alloc sI _).alloc sO _;have A0:Ag n1 w n7:=((Ag.new w n7).alloc _).alloc _;have P0:Ag n1 (w.heap.size+1) n4:=by have:=(Ag.new (w.alloc n7) n4).alloc n8;simpa using this
 have R0:Ag n1 (w.heap.size+1+1) n8:=by have:=Ag.new ((w.alloc n7).alloc n4) n8;simpa using this
 have HO:=qC (hk.2.2.2.below b0);have HB:=qC b0;have lV:Hid ((n1:World).heap.size=w.heap.size+3):=qC sI;have E0:Hid (AW ((n1:World).alloc (qG #[] 59)) (n1:World).heap.size (qV (some ⟨w.heap.size+1+1+1,0,none⟩) 0 0) []):=qC (by
  have h:=AW.made n1 (n1:World).heap.size nr;rw[show(some ⟨(n1:World).heap.size,0,none⟩:Option Addr)=some ⟨w.heap.size+1+1+1,0,none⟩ from by simp]at h;exact h)
 have BE:=qC (Bg n1 (qG #[] 59));have HA:=qC A0;have HP:=qC P0;have HR:=qC R0;unfold Av.val;clear hk b0 A0 P0 R0;go_enter func96,ntmps96
 go_wp2;generalize (n1:World)=V at *;go_loopw [5,6,7] (fun v d i wr=>∃(j:Nat) (b:Bool) (l:List Ab) (la:Option Addr) (lc:Nat),j<=k.on/\i= iT qH j/\d= .bool b/\v= qV la l.length lc/\MU k o j b l/\AW wr V (qV la l.length lc) l/\qN V V wr) (fun _ _ i _=>k.on-(intOf i).toNat)
 case atStart=>exact⟨0,false,[],_,0,Nat.zero_le _,rfl,rfl,rfl,⟨rfl,fun y hy=>absurd hy kM⟩,E0,BE⟩
 case round=>
  clear E0 BE;obtain⟨j,d,l,la,lc,hj,rfl,rfl,rfl,ad,ow,be⟩:=hrel;have AT:=qC ad;have OW:=qC ow;have BB:=qC be;have ll:l.length<=1048575:=by have:=Xm ad;omega
  have ll2:l.length+1<=1048576:=by omega
  clear ad ow be;obtain⟨a0,a1⟩:=(HA.out.below BB).two;have PB:=qC (HP.out.below BB);obtain⟨o0,o1,o2,o3,o4,o5,o6,o7,o8,o9⟩:=PB.out.jE;by_cases hlt:j<k.on
  ·have i1:(j:Int)<(k.on:Int):=qQ;have i0:(0:Int)<=(j:Int):=qQ;obtain⟨b,off,ea,hbl,hc⟩:=HO.out qQ;have CC:Di wr b (off+j*10) (k.O j):=(hc j hlt).1.below hbl BB.out;have q0:wr.cell? ⟨b,off+j*10,none⟩=some (iT qH (k.O j).id):=CC.c0;have q1:wr.cell? ⟨b,off+j*10+1,none⟩=some (iT qH (k.O j).kind):=CC.c1;have q2:wr.cell? ⟨b,off+j*10+2,none⟩=some (iT qH (k.O j).up):=CC.c2;have q3:wr.cell? ⟨b,off+j*10+3,none⟩=some (iT qH (k.O j).b1):=CC.c3;have q4:wr.cell? ⟨b,off+j*10+4,none⟩=some (qV (k.O j).c1.a (k.O j).c1.n (k.O j).c1.k):=CC.c4;have q5:wr.cell? ⟨b,off+j*10+5,none⟩=some (.string (k.O j).data):=CC.c5;have q6:wr.cell? ⟨b,off+j*10+6,none⟩=some (qV (k.O j).jA.a (k.O j).jA.n (k.O j).jA.k):=CC.c6;have q7:wr.cell? ⟨b,off+j*10+7,none⟩=some (qV (k.O j).own.a (k.O j).own.n (k.O j).own.k):=CC.c7;have q8:wr.cell? ⟨b,off+j*10+8,none⟩=some (iT qH (k.O j).b2):=CC.c8;have q9:wr.cell? ⟨b,off+j*10+9,none⟩=some (qV (k.O j).c2.a (k.O j).c2.n (k.O j).c2.k):=CC.c9;rw[ea]at a1;have hbw:b<wr.heap.size:=Nat.lt_of_lt_of_le hbl BB.out.size;have HLT:=qC hlt;have EA:=qC ea;have HC:Hid (∀X,qN V V X->Di X b (off+j*10) (k.O j)):=qC (fun X hX=>(hc j HLT).1.below hbl hX);clear hc CC ea hlt;cases d with
   |true=>
    go_wp2_with fail
    go_quiet(fail)
    have bn:qN wr wr (wr.drewN nq):=below_drewN (Below.refl _ wr) nq;have OWn:=qC (OW.out.below bn);have BBn:=qC (BB.out.trans (bn.mono BB.out.size));clear a0 a1 q0 q1 q2 q3 q4 q5 q6 q7 q8 q9 o0 o1 o2 o3 o4 o5 o6 o7 o8 o9 PB;clear bn OW BB;generalize wr.drewN nq=W at *;obtain⟨a0,a1⟩:=(HA.out.below BBn).two;rw[EA.out]at a1;have PB:=qC (HP.out.below BBn);obtain⟨o0,o1,o2,o3,o4,o5,o6,o7,o8,o9⟩:=PB.out.jE;have CD:Di W b (off+j*10) (k.O j):=HC.out W BBn.out;have q0:W.cell? ⟨b,off+j*10,none⟩=some (iT qH (k.O j).id):=CD.c0;have q1:W.cell? ⟨b,off+j*10+1,none⟩=some (iT qH (k.O j).kind):=CD.c1;have q2:W.cell? ⟨b,off+j*10+2,none⟩=some (iT qH (k.O j).up):=CD.c2;have q3:W.cell? ⟨b,off+j*10+3,none⟩=some (iT qH (k.O j).b1):=CD.c3;have q4:W.cell? ⟨b,off+j*10+4,none⟩=some (qV (k.O j).c1.a (k.O j).c1.n (k.O j).c1.k):=CD.c4;have q5:W.cell? ⟨b,off+j*10+5,none⟩=some (.string (k.O j).data):=CD.c5;have q6:W.cell? ⟨b,off+j*10+6,none⟩=some (qV (k.O j).jA.a (k.O j).jA.n (k.O j).jA.k):=CD.c6;have q7:W.cell? ⟨b,off+j*10+7,none⟩=some (qV (k.O j).own.a (k.O j).own.n (k.O j).own.k):=CD.c7;have q8:W.cell? ⟨b,off+j*10+8,none⟩=some (iT qH (k.O j).b2):=CD.c8;have q9:W.cell? ⟨b,off+j*10+9,none⟩=some (qV (k.O j).c2.a (k.O j).c2.n (k.O j).c2.k):=CD.c9;clear CD;have sV:V.heap.size<=W.heap.size:=BBn.out.size;have n2:No (qG (k.O j) 59):=⟨⟩;have QO:=qC (OWn.out.below ((Below.refl _ W).alloc nr n2));have QL:Hid (Bl (W.alloc n2) (some ⟨W,0,none⟩) 1 (Ax [k.O j])):=qC (AW.one W (k.O j));have sQ:V.heap.size<=(W.alloc n2).heap.size:=sO;have bQ:=qC (BBn.out.alloc BBn.out.size n2);go_wp2_with(at_builtin;refine Da _ rfl _ _ rfl V (qV la l.length lc) l rfl QO _ _ (k.O j) rfl QL qQ sQ ?_;intro a7 c7 w7 o7 g7;have O7:=qC o7;have B7:Hid (qN V V w7):=qC (bQ.out.trans (below_grown g7 sQ (fun j e=>(qq.lt QO j e).1)));clear o7 g7)
    go_roundw;case rel=>exact⟨j+1,true,l++[k.O j],a7,c7,by have:=HLT.out;omega,by go_num,rfl,by simp,Wi AT,by rw[show(l++[k.O j]).length=l.length+1 from by simp];exact O7.out,B7⟩
    case measure=>have:=HLT.out;simp[intOf];omega
   |false=>
    by_cases hx:o.id<(k.O j).id
    ·have hx':decide (o.id<(k.O j).id)=true:=decide_eq_true hx;have HX:=qC hx;go_wp2_with fail
     go_quiet(fail)
     have bn:qN wr wr (wr.drewN nq):=below_drewN (Below.refl _ wr) nq;have OWn:=qC (OW.out.below bn);have BBn:=qC (BB.out.trans (bn.mono BB.out.size));clear a0 a1 q0 q1 q2 q3 q4 q5 q6 q7 q8 q9 o0 o1 o2 o3 o4 o5 o6 o7 o8 o9 PB;clear bn OW BB;generalize wr.drewN nq=W at *;obtain⟨a0,a1⟩:=(HA.out.below BBn).two;rw[EA.out]at a1;have PB:=qC (HP.out.below BBn);obtain⟨o0,o1,o2,o3,o4,o5,o6,o7,o8,o9⟩:=PB.out.jE;have CD:Di W b (off+j*10) (k.O j):=HC.out W BBn.out;have q0:W.cell? ⟨b,off+j*10,none⟩=some (iT qH (k.O j).id):=CD.c0;have q1:W.cell? ⟨b,off+j*10+1,none⟩=some (iT qH (k.O j).kind):=CD.c1;have q2:W.cell? ⟨b,off+j*10+2,none⟩=some (iT qH (k.O j).up):=CD.c2;have q3:W.cell? ⟨b,off+j*10+3,none⟩=some (iT qH (k.O j).b1):=CD.c3;have q4:W.cell? ⟨b,off+j*10+4,none⟩=some (qV (k.O j).c1.a (k.O j).c1.n (k.O j).c1.k):=CD.c4;have q5:W.cell? ⟨b,off+j*10+5,none⟩=some (.string (k.O j).data):=CD.c5;have q6:W.cell? ⟨b,off+j*10+6,none⟩=some (qV (k.O j).jA.a (k.O j).jA.n (k.O j).jA.k):=CD.c6;have q7:W.cell? ⟨b,off+j*10+7,none⟩=some (qV (k.O j).own.a (k.O j).own.n (k.O j).own.k):=CD.c7;have q8:W.cell? ⟨b,off+j*10+8,none⟩=some (iT qH (k.O j).b2):=CD.c8;have q9:W.cell? ⟨b,off+j*10+9,none⟩=some (qV (k.O j).c2.a (k.O j).c2.n (k.O j).c2.k):=CD.c9;clear CD;have sV:V.heap.size<=W.heap.size:=BBn.out.size;have mk1:True:=trivial;have n5:No (qG o 59):=⟨⟩;have PO:=qC (OWn.out.below ((Below.refl _ W).alloc nr n5));have PL:Hid (Bl (W.alloc n5) (some ⟨W,0,none⟩) 1 (Ax [o])):=qC (AW.one W o);have sP:V.heap.size<=(W.alloc n5).heap.size:=sO;have bP:=qC (BBn.out.alloc BBn.out.size n5);go_wp2_with(first
      |(at_builtin;have mq:=mk1;clear mk1 mq;refine Da _ rfl _ _ rfl V (qV la l.length lc) l rfl PO _ _ o rfl PL qQ sP ?_;intro a6 c6 w6 ow6 g6;have B6:Hid (qN V V w6):=qC (bP.out.trans (below_grown g6 sP (fun j e=>(qq.lt PO j e).1)));have O6:=qC (ow6.below ((Below.refl _ w6).alloc (Nat.le_refl _) (qG (k.O j) 59)));have QL:Hid (Bl (w6.alloc (qG (k.O j) 59)) (some ⟨w6,0,none⟩) 1 (Ax [k.O j])):=qC (AW.one w6 (k.O j));have s6:V.heap.size<=w6.heap.size:=B6.out.size;have sQ:V.heap.size<=(w6.alloc (qG (k.O j) 59)).heap.size:=sO;have bQ:=qC (B6.out.alloc B6.out.size (qG (k.O j) 59));clear ow6 g6 a0 a1 q0 q1 q2 q3 q4 q5 q6 q7 q8 q9 o0 o1 o2 o3 o4 o5 o6 o7 o8 o9;obtain⟨a0,a1⟩:=(HA.out.below B6).two;rw[EA.out]at a1;have CE:Di w6 b (off+j*10) (k.O j):=HC.out w6 B6.out;have q0:w6.cell? ⟨b,off+j*10,none⟩=some (iT qH (k.O j).id):=CE.c0;have q1:w6.cell? ⟨b,off+j*10+1,none⟩=some (iT qH (k.O j).kind):=CE.c1;have q2:w6.cell? ⟨b,off+j*10+2,none⟩=some (iT qH (k.O j).up):=CE.c2;have q3:w6.cell? ⟨b,off+j*10+3,none⟩=some (iT qH (k.O j).b1):=CE.c3;have q4:w6.cell? ⟨b,off+j*10+4,none⟩=some (qV (k.O j).c1.a (k.O j).c1.n (k.O j).c1.k):=CE.c4;have q5:w6.cell? ⟨b,off+j*10+5,none⟩=some (.string (k.O j).data):=CE.c5;have q6:w6.cell? ⟨b,off+j*10+6,none⟩=some (qV (k.O j).jA.a (k.O j).jA.n (k.O j).jA.k):=CE.c6;have q7:w6.cell? ⟨b,off+j*10+7,none⟩=some (qV (k.O j).own.a (k.O j).own.n (k.O j).own.k):=CE.c7;have q8:w6.cell? ⟨b,off+j*10+8,none⟩=some (iT qH (k.O j).b2):=CE.c8;have q9:w6.cell? ⟨b,off+j*10+9,none⟩=some (qV (k.O j).c2.a (k.O j).c2.n (k.O j).c2.k):=CE.c9;clear CE;have l6:(l++[o]).length<=1048576:=sO;have mk2:True:=trivial)
      |(at_builtin;have mq:=mk2;refine Da _ rfl _ _ rfl V (qV a6 (l.length+1) c6) (l++[o]) rfl O6 _ _ (k.O j) rfl QL l6 sQ ?_;intro a7 c7 w7 o7 g7;have O7:=qC o7;have B7:Hid (qN V V w7):=qC (bQ.out.trans (below_grown g7 sQ (fun j e=>(qq.lt O6 j e).1)));clear o7 g7))
     go_roundw;case rel=>exact⟨j+1,true,l++[o]++[k.O j],a7,c7,by have:=HLT.out;omega,by go_num,rfl,by simp,Yo AT HX,by rw[show(l++[o]++[k.O j]).length=(l++[o]).length+1 from by simp];exact O7.out,B7⟩
     case measure=>have:=HLT.out;simp[intOf];omega
    ·have hx':decide (o.id<(k.O j).id)=false:=decide_eq_false hx;have HX:=qC hx;go_wp2_with fail
     go_quiet(fail)
     have bn:qN wr wr (wr.drewN nq):=below_drewN (Below.refl _ wr) nq;have OWn:=qC (OW.out.below bn);have BBn:=qC (BB.out.trans (bn.mono BB.out.size));clear a0 a1 q0 q1 q2 q3 q4 q5 q6 q7 q8 q9 o0 o1 o2 o3 o4 o5 o6 o7 o8 o9 PB;clear bn OW BB;generalize wr.drewN nq=W at *;obtain⟨a0,a1⟩:=(HA.out.below BBn).two;rw[EA.out]at a1;have PB:=qC (HP.out.below BBn);obtain⟨o0,o1,o2,o3,o4,o5,o6,o7,o8,o9⟩:=PB.out.jE;have CD:Di W b (off+j*10) (k.O j):=HC.out W BBn.out;have q0:W.cell? ⟨b,off+j*10,none⟩=some (iT qH (k.O j).id):=CD.c0;have q1:W.cell? ⟨b,off+j*10+1,none⟩=some (iT qH (k.O j).kind):=CD.c1;have q2:W.cell? ⟨b,off+j*10+2,none⟩=some (iT qH (k.O j).up):=CD.c2;have q3:W.cell? ⟨b,off+j*10+3,none⟩=some (iT qH (k.O j).b1):=CD.c3;have q4:W.cell? ⟨b,off+j*10+4,none⟩=some (qV (k.O j).c1.a (k.O j).c1.n (k.O j).c1.k):=CD.c4;have q5:W.cell? ⟨b,off+j*10+5,none⟩=some (.string (k.O j).data):=CD.c5;have q6:W.cell? ⟨b,off+j*10+6,none⟩=some (qV (k.O j).jA.a (k.O j).jA.n (k.O j).jA.k):=CD.c6;have q7:W.cell? ⟨b,off+j*10+7,none⟩=some (qV (k.O j).own.a (k.O j).own.n (k.O j).own.k):=CD.c7;have q8:W.cell? ⟨b,off+j*10+8,none⟩=some (iT qH (k.O j).b2):=CD.c8;have q9:W.cell? ⟨b,off+j*10+9,none⟩=some (qV (k.O j).c2.a (k.O j).c2.n (k.O j).c2.k):=CD.c9;clear CD;have sV:V.heap.size<=W.heap.size:=BBn.out.size;have n3:No (qG (k.O j) 59):=⟨⟩;have QO:=qC (OWn.out.below ((Below.refl _ W).alloc nr n3));have QL:Hid (Bl (W.alloc n3) (some ⟨W,0,none⟩) 1 (Ax [k.O j])):=qC (AW.one W (k.O j));have sQ:V.heap.size<=(W.alloc n3).heap.size:=sO;have bQ:=qC (BBn.out.alloc BBn.out.size n3);go_wp2_with(at_builtin;refine Da _ rfl _ _ rfl V (qV la l.length lc) l rfl QO _ _ (k.O j) rfl QL qQ sQ ?_;intro a7 c7 w7 o7 g7;have O7:=qC o7;have B7:Hid (qN V V w7):=qC (bQ.out.trans (below_grown g7 sQ (fun j e=>(qq.lt QO j e).1)));clear o7 g7)
     go_roundw;case rel=>exact⟨j+1,false,l++[k.O j],a7,c7,by have:=HLT.out;omega,by go_num,rfl,by simp,Ws AT (Int.not_lt.2 HX),by rw[show(l++[k.O j]).length=l.length+1 from by simp];exact O7.out,B7⟩
     case measure=>have:=HLT.out;simp[intOf];omega
  ·obtain rfl:j=k.on:=by omega
   have i1:¬(k.on:Int)<(k.on:Int):=qQ;have rA:=(HA.out.below BB).jC;obtain⟨r0,r1⟩:=(HR.out.below BB).two;have rf:=(HR.out.below BB).jC;cases d with
   |true=>
    have EL:Hid ((Bs o (k.oL k.on)).length=l.length/\Bs o (k.oL k.on)=l):=qC ⟨by rw[AT.out.1],AT.out.1.symm⟩;go_wp2;have KB:=qC (HA.out.below BB);have RB:=qC ((HR.out.below BB).other (Q:=w.heap.size) (i:=1) qQ (qV la l.length lc));have FO:=qC (((AW.set OW KB (i:=1) qX (qV la l.length lc)).set RB (i:=0) qX (qV k.ta k.tn k.tk)).set (RB.out.jB (i:=0) (qV k.ta k.tn k.tk)) (i:=1) qX (qV la l.length lc));refine bodyPost_ret (Ih _ _ (w.heap.size+1+1) 4 _ _ Tryz.results96 ((RB.out.jB (i:=0) _).jB (i:=1) _) rfl) rfl ⟨la,lc,by rw[EL.out.1],by rw[EL.out.2];exact FO.out.base HB.out.size,?_⟩;iterate 3 refine Below.setCell ?_ qJ _
    exact HB.out.trans (BB.out.mono HB.out.size)
   |false=>
    have EL:Hid ((Bs o (k.oL k.on)).length=l.length+1/\Bs o (k.oL k.on)=l++[o]):=qC (by
     have h:Bs o (k.oL k.on)=l++[o]:=by
      have:=MA (b:=[]) AT.out.2;rw[List.append_nil]at this;rw[this,AT.out.1];rfl
     exact⟨by rw[h];simp,h⟩)
    have n6:No (qG o 59):=⟨⟩;have PO:=qC (OW.out.below ((Below.refl _ wr).alloc nr n6));have PL:Hid (Bl (wr.alloc n6) (some ⟨wr,0,none⟩) 1 (Ax [o])):=qC (AW.one wr o);have sV:V.heap.size<=wr.heap.size:=BB.out.size;have sP:V.heap.size<=(wr.alloc n6).heap.size:=sO;have bP:=qC (BB.out.alloc BB.out.size n6);go_wp2_with(at_builtin;refine Da _ rfl _ _ rfl V (qV la l.length lc) l rfl PO _ _ o rfl PL qQ sP ?_;intro a6 c6 w6 ow6 g6;have B6:Hid (qN V V w6):=qC (bP.out.trans (below_grown g6 sP (fun j e=>(qq.lt PO j e).1)));have O6:=qC ow6;clear ow6 g6 a0 a1 o0 o1 o2 o3 o4 o5 o6 o7 o8 o9 r0 r1 rf rA;obtain⟨a0,a1⟩:=(HA.out.below B6).two;have rA:=(HA.out.below B6).jC;obtain⟨r0,r1⟩:=(HR.out.below B6).two;have rf:=(HR.out.below B6).jC)
    have KB:=qC (HA.out.below B6);have n9:Nv (qV a6 (l.length+1) c6):=⟨⟩;have RB:=qC ((HR.out.below B6).other (Q:=w.heap.size) (i:=1) qQ n9);have FO:=qC (((AW.set O6 KB (i:=1) qX n9).set RB (i:=0) qX (qV k.ta k.tn k.tk)).set (RB.out.jB (i:=0) (qV k.ta k.tn k.tk)) (i:=1) qX n9);refine bodyPost_ret (Ih _ _ (w.heap.size+1+1) 4 _ _ Tryz.results96 ((RB.out.jB (i:=0) _).jB (i:=1) _) rfl) rfl ⟨a6,c6,by rw[EL.out.1],by rw[EL.out.1,EL.out.2];exact FO.out.base HB.out.size,?_⟩;iterate 3 refine Below.setCell ?_ qJ _
    exact HB.out.trans (B6.out.mono HB.out.size)
variable {w:World}{α:Type}{t B g i:Nat}{lt:List Ae}{lo:List Ab}{u:Value}
structure Aj where
 th:Int
 kind:Int
 id:Int
 «to»:Int
 cat:Int
 data:ByteArray
 b1:Int
 c1:As
 b2:Int
 c2:As
instance:Coe Aj (Array Value):=⟨fun s=>#[s.th,s.kind,s.id,s.to,s.cat,.string s.data,s.b1,.slice s.c1.a s.c1.n s.c1.k,s.b2,.slice s.c2.a s.c2.n s.c2.k]⟩
def Aj.cells(s:Aj):Array Value:=s
def Aj.at(w:World)(s:Aj):Prop:=s.c1.at w/\s.c2.at w/\s.data.size<=maxLen
theorem Aj.at.below{w':World}{s:Aj}(h:s.at w)(hb:Below w w w'):s.at w':=⟨h.1.below hb,h.2.1.below hb,h.2.2⟩
theorem Dl{f:α->List Value}{c:Nat}(hl:∀x,(f x).length=c):∀{l:List α}{t i:Nat}{x:α}{u:Value} (ht:t<l.length),i<c->f x=(f l[t]).set i u->((l.map f).flatten).set (t*c+i) u=((l.set t x).map f).flatten
 |[],t,_,_,_,ht,_,_=>absurd ht (Nat.not_lt_zero t)
 |y::r,0,i,x,u,_,hi,h=>by
  show(f y++(r.map f).flatten).set (0*c+i) u=f x++(r.map f).flatten;rw[Nat.zero_mul,Nat.zero_add,List.set_append_left _ _ (by rw[hl];exact hi)];have h':f x=(f y).set i u:=h;rw[h']
 |y::r,t+1,i,x,u,ht,hi,h=>by
  show(f y++(r.map f).flatten).set ((t+1)*c+i) u=f y++((r.set t x).map f).flatten;have e:(t+1)*c+i=(f y).length+(t*c+i):=by rw[hl,Nat.succ_mul];omega
  rw[e,List.set_append_right _ _ qQ,Nat.add_sub_cancel_left];rw[Dl hl (l:=r) (t:=t) (x:=x) (by simpa using ht) hi h]
theorem Ae.jK(x:Ae):x.cs.length=7:=rfl
theorem Ab.jK(x:Ab):x.cs.length=10:=rfl
theorem G8{l:List α}{x y:α}(h:y∈l.set t x):y=x∨y∈l:=by
 rcases List.mem_or_eq_of_mem_set h with h|h
 ·exact .inr h
 ·exact .inl h
theorem Bz.setT{ca:Nat}{vo:Value}(h:Bz w B (.slice g lt.length ca) vo lt lo){x:Ae}(ht:t<lt.length)(hi:i<7)(hcs:x.cs=(lt[t]).cs.set i u)(hx:x.new B w)(hc:x.own.n<=x.own.k/\x.own.k<=maxLen):
 Bz (w.setCell ⟨g,t*7+i,none⟩ u) B (.slice g (lt.set t x).length ca) vo (lt.set t x) lo/\(∃cur,Ag w g (.cells cur 53))/\B<=g:=by
 have hg:∃cur,Ag w g (.cells cur 53):=by
  rcases h.t.2 with⟨hv,_⟩|⟨g',cap,cur,hv,_,hgg,_⟩
  ·cases hv
  ·cases hv;exact⟨cur,hgg⟩
 have hBg:B<=g:=(qq.lt h.t g rfl).1;obtain⟨cur,hcur⟩:=hg;have kl:=Aq (i:=t*7+i) hcur qX u;have el:(lt.set t x).length=lt.length:=by simp
 have ho:=(qq.stored h.t (t*7+i) u).1;refine⟨⟨?_,h.o.set hcur qX u,fun y hy=>?_,fun y hy=>(h.on y hy).keeps kl,fun y hy=>?_,h.oc⟩,⟨cur,hcur⟩,hBg⟩
 ·unfold Du;rw[el];have e:=Dl (f:=Ae.cs) Ae.jK (l:=lt) (t:=t) (x:=x) (u:=u) ht hi hcs;unfold Cn;rw[<-e];exact ho
 ·rcases G8 hy with rfl|hy
  ·exact hx.keeps kl
  ·exact(h.tn y hy).keeps kl
 ·rcases G8 hy with rfl|hy
  ·exact hc
  ·exact h.tc y hy
theorem Bz.setO{co:Nat}{vt:Value}(h:Bz w B vt (.slice g lo.length co) lt lo){x:Ab}(ht:t<lo.length)(hi:i<10)(hcs:x.cs=(lo[t]).cs.set i u)(hx:x.new B w)(hc:x.jA.n<=x.jA.k/\x.jA.k<=maxLen):
 Bz (w.setCell ⟨g,t*10+i,none⟩ u) B vt (.slice g (lo.set t x).length co) lt (lo.set t x)/\(∃cur,Ag w g (.cells cur 59))/\B<=g:=by
 have hg:∃cur,Ag w g (.cells cur 59):=by
  rcases h.o.2 with⟨hv,_⟩|⟨g',cap,cur,hv,_,hgg,_⟩
  ·cases hv
  ·cases hv;exact⟨cur,hgg⟩
 have hBg:B<=g:=(qq.lt h.o g rfl).1;obtain⟨cur,hcur⟩:=hg;have kl:=Aq (i:=t*10+i) hcur qX u;have el:(lo.set t x).length=lo.length:=by simp
 have ho:=(qq.stored h.o (t*10+i) u).1;refine⟨⟨h.t.set hcur qX u,?_,fun y hy=>(h.tn y hy).keeps kl,fun y hy=>?_,h.tc,fun y hy=>?_⟩,⟨cur,hcur⟩,hBg⟩
 ·unfold AW;rw[el];have e:=Dl (f:=Ab.cs) Ab.jK (l:=lo) (t:=t) (x:=x) (u:=u) ht hi hcs;unfold Ax;rw[<-e];exact ho
 ·rcases G8 hy with rfl|hy
  ·exact hx.keeps kl
  ·exact(h.on y hy).keeps kl
 ·rcases G8 hy with rfl|hy
  ·exact hc
  ·exact h.oc y hy
open _root_.List renaming perm_append_comm→jz,append_assoc→kN,map_set→ky
def IN(s:Aj)(g nt ca q no co t:Nat)(m:Value):Array Value:=#[s.th,s.kind,s.id,s.to,s.cat,.string s.data,s.b1,s.c1,s.b2,s.c2,qV g nt ca,qV q no co,.pointer (some ⟨g,t*7,none⟩),m]
structure Fg(wr:World)(B P:Nat)(s:Aj)(g ca q co:Nat)(lt:List Ae)(lo:List Ab)(t:Nat)(m:Value):Prop where
 st:Bz wr B (qV g lt.length ca) (qV q lo.length co) lt lo
 ap:Apart lt lo
 wk:Ag wr P (.cells (IN s g lt.length ca q lo.length co t m) 175)
 lp:B<=P
theorem Ag.jZ{W:World}{P ty:Nat}{s:Aj}{g nt ca q no co t:Nat}{m:Value}(h:Ag W P (.cells (IN s g nt ca q no co t m) ty)):
 (W.cell? ⟨P,0,none⟩=some (.int .i64 s.th)/\W.cell? ⟨P,1,none⟩=some (.int .i64 s.kind)/\W.cell? ⟨P,2,none⟩=some (.int .i64 s.id)/\W.cell? ⟨P,3,none⟩=some (.int .i64 s.to)/\W.cell? ⟨P,4,none⟩=some (.int .i64 s.cat)/\W.cell? ⟨P,5,none⟩=some (.string s.data)/\W.cell? ⟨P,6,none⟩=some (.int .i64 s.b1)/\W.cell? ⟨P,7,none⟩=some (qV s.c1.a s.c1.n s.c1.k)/\W.cell? ⟨P,8,none⟩=some (.int .i64 s.b2)/\W.cell? ⟨P,9,none⟩=some (qV s.c2.a s.c2.n s.c2.k))/\
 W.cell? ⟨P,10,none⟩=some (qV g nt ca)/\W.cell? ⟨P,11,none⟩=some (qV q no co)/\W.cell? ⟨P,12,none⟩=some (.pointer (some ⟨g,t*7,none⟩))/\W.cell? ⟨P,13,none⟩=some m:=by
 unfold Ag IN at h;simp[World.cell?,h]
section
variable {wr w':World}{B P:Nat}{s:Aj}{g ca q co:Nat}{lt:List Ae}{lo:List Ab}{t:Nat}{m:Value}
theorem Fg.below(h:Fg wr B P s g ca q co lt lo t m)(hb:Below wr wr w'):Fg w' B P s g ca q co lt lo t m:=
 ⟨h.st.below hb,h.ap,h.wk.below hb,h.lp⟩
end
theorem Pm:∀{L:List (List Nat)}{t:Nat}{l:List Nat} (l':List Nat),L[t]? =some l->∃R:List Nat,L.flatten.Perm (l++R)/\(L.set t l').flatten.Perm (l'++R)
 |[],t,l,_,h=>by simp at h
 |x::L,0,l,l',h=>by
  simp only[List.getElem?_cons_zero,Option.some.injEq]at h;subst h;exact⟨L.flatten,by simp,by simp⟩
 |x::L,t+1,l,l',h=>by
  simp only[List.getElem?_cons_succ]at h;obtain⟨R,h1,h2⟩:=Pm l' h;refine⟨x++R,?_,?_⟩
  ·simp only[List.flatten_cons];refine(h1.append_left x).trans ?_;rw[<-kN,<-kN];exact jz.append_right R
  ·simp only[List.set_cons_succ,List.flatten_cons];refine(h2.append_left x).trans ?_;rw[<-kN,<-kN];exact jz.append_right R
theorem Vr{l l' R:List Nat}{M:Nat}(h:(l++R).Nodup)(h1:l'.Nodup)(h2:∀x∈l',x∈l∨M<=x)(h3:∀x∈l++R,x<M):(l'++R).Nodup:=by
 rw[List.nodup_append]at h ⊢;refine⟨h1,h.2.1,fun x hx y hy e=>?_⟩;subst e;rcases h2 x hx with a|a
 ·exact h.2.2 x a x hy rfl
 ·have:=h3 x (List.mem_append.2 (.inr hy));omega
theorem IE{L:List (List Nat)}{S:List Nat}{t M:Nat}{l:List Nat}(l':List Nat)(hl:L[t]? =some l)(h:(L.flatten++S).Nodup)(h1:l'.Nodup)(h2:∀x∈l',x∈l∨M<=x)(h3:∀x∈L.flatten++S,x<M):((L.set t l').flatten++S).Nodup:=by
 obtain⟨R,p1,p2⟩:=Pm l' hl;have q1:(L.flatten++S).Perm (l++(R++S)):=by rw[<-kN];exact p1.append_right S
 have q2:((L.set t l').flatten++S).Perm (l'++(R++S)):=by rw[<-kN];exact p2.append_right S
 exact q2.nodup_iff.2 (Vr (q1.nodup_iff.1 h) h1 h2 (fun x hx=>h3 x (q1.mem_iff.2 hx)))
theorem Dr{L:List (List Nat)}{S:List Nat}{t:Nat}{l:List Nat}(hl:L[t]? =some l)(h:(L.flatten++S).Nodup):l.Nodup:=by
 obtain⟨R,p1,_⟩:=Pm [] hl;exact(List.nodup_append.1 (p1.nodup_iff.1 (List.nodup_append.1 h).1)).1
theorem Apart.setT{w:World}{B:Nat}{vt vo:Value}{lt:List Ae}{lo:List Ab}(h:Apart lt lo)(hk:Bz w B vt vo lt lo){t:Nat}(ht:t<lt.length){x:Ae}(hn:x.cb.Nodup)(hc:∀b∈x.cb,b∈lt[t].cb∨w.heap.size<=b)(hd:x.own.bs.Nodup)(hi:∀b∈x.own.bs,b∈lt[t].own.bs∨w.heap.size<=b):Apart (lt.set t x) lo:=by
 obtain⟨k1,k2,_⟩:=hk.low3;refine⟨?_,?_,h.s⟩
 ·rw[ky];exact IE x.cb (l:=lt[t].cb) (by simp[ht]) h.c hn hc k1
 ·rw[ky];exact IE x.own.bs (l:=lt[t].own.bs) (by simp[ht]) h.i hd hi k2
theorem Apart.setO{w:World}{B:Nat}{vt vo:Value}{lt:List Ae}{lo:List Ab}(h:Apart lt lo)(hk:Bz w B vt vo lt lo){t:Nat}(ht:t<lo.length){x:Ab}(hn:x.cb.Nodup)(hc:∀b∈x.cb,b∈lo[t].cb∨w.heap.size<=b)(hd:x.own.bs.Nodup)(hi:∀b∈x.own.bs,b∈lo[t].own.bs∨w.heap.size<=b)(he:x.jA.bs.Nodup)(hs:∀b∈x.jA.bs,b∈lo[t].jA.bs∨w.heap.size<=b):Apart lt (lo.set t x):=by
 obtain⟨k1,k2,k3⟩:=hk.low3;refine⟨?_,?_,?_⟩
 ·rw[ky];refine jz.nodup_iff.2 (IE x.cb (l:=lo[t].cb) (by simp[ht]) (jz.nodup_iff.2 h.c) hn hc (fun b hb=>k1 b (jz.mem_iff.2 hb)))
 ·rw[ky];refine jz.nodup_iff.2 (IE x.own.bs (l:=lo[t].own.bs) (by simp[ht]) (jz.nodup_iff.2 h.i) hd hi (fun b hb=>k2 b (jz.mem_iff.2 hb)))
 ·rw[ky];have:=IE x.jA.bs (S:=[]) (L:=lo.map fun x=>x.jA.bs) (t:=t) (l:=lo[t].jA.bs) (by simp[ht]) (by rw[List.append_nil];exact h.s) he hs (by rw[List.append_nil];exact k3);rw[List.append_nil]at this;exact this
variable {n k:Nat}{x base:Int}{f g:Nat->Int}
theorem Ry{m:Int->Option Int}{base c:Int}{D:DataW Unit}(h1:Maps.has D (.int .i64 x)=(m x).isSome)(h2:∀v,m x=some v->D.atKey (.int .i64 x) (.lit (.int .i64 0))= .lit (.int .i64 v))(hat:D.atKey (.int .i64 x) (.lit (.int .i64 0))= .lit (.int .i64 c)):
 (Maps.has D (.int .i64 x)=true->(m x).getD base=c)/\(Maps.has D (.int .i64 x)=false->(m x).getD base=base):=by
 cases hm:m x with
 |none=>simp[h1,hm]
 |some v=>
  have:=(h2 v hm).symm.trans hat;simp at this;simp[h1,hm,this]
theorem dO(base:Int)(c n:Nat)(m:Int->Option Int)(x:Int)(w:World)(hm:Bu w c n m)(hx:(Lit.int .i64 x).wf=true):
 Calls prog 207 #[.agg #[.int .i64 base,.map (some c)],.int .i64 x] w fun e w'=>e= .returned (.int .i64 ((m x).getD base))/\Below w w w':=by
 have hkey:keyOf prog 2 (.int .i64 x)=some (.int .i64 x):=keyOf_int_mk underlying2 hx;obtain⟨D,hown,hD,hall⟩:=hm.alloc (.cells #[.int .i64 base,.map (some c)] 277);obtain⟨h1,h2⟩:=hall x;clear hall;go_enter func207,ntmps207
 have HH:Hid (∀(c:Int),D.atKey (.int .i64 x) (.lit (.int .i64 0))= .lit (.int .i64 c)->(Maps.has D (.int .i64 x)=true->(m x).getD base=c)/\(Maps.has D (.int .i64 x)=false->(m x).getD base=base)):=fun c hat=>Ry h1 h2 hat;clear h1 h2;go_wp2_with(at_lookup;refine wpList_lookup_own_ok_int _ rfl _ _ 108 rfl 2 2 .i64 Ip underlying108 underlying2 (cW _) c n _ rfl hown _ _ rfl hkey ?_;intro cc hat hwc)
 ·go_ret;have t:Maps.has D (.int .i64 x)=true:=by assumption
  exact⟨Fw ((HH _ hat).1 t).symm,Bg _ _⟩
 ·go_ret;have t:Maps.has D (.int .i64 x)=false:=by assumption
  exact⟨Fw ((HH _ hat).2 t).symm,Bg _ _⟩
def Fo(base:Int)(n:Nat)(f g:Nat->Int)(x:Int):Int:=(look f g n x).getD base
theorem XW(h:∀i,i<k->f i≠x):look f g k x=none:=by
 induction k with
 |zero=>rfl
 |succ k ih=>simp only[look];rw[if_neg (h k qQ)];exact ih fun i hi=>h i qQ
theorem YF(hr:∀j,j<n->∀i,i<j->f i<f j)(hk:k<n):look f g n (f k)=some (g k):=by
 induction n with
 |zero=>omega
 |succ n ih=>
  simp only[look];by_cases e:k=n
  ·subst e;rw[if_pos rfl]
  ·have:=hr n qQ k qQ;rw[if_neg qQ];exact ih (fun j hj i hi=>hr j qQ i hi) qQ
theorem MQ(base:Int)(a:Option Addr)(n cap:Nat)(f g:Nat->Int)(x:Int)(w:World)(hn:n<=maxLen)(hc:Bd w a n f g)(hr:∀j,j<n->∀i,i<j->f i<f j):
 Calls prog 127 #[.agg #[.int .i64 base,.slice a n cap],.int .i64 x] w fun e w'=>e= .returned (.int .i64 (Fo base n f g x))/\Below w w w':=by
 unfold maxLen at hn;have hb0:=Bg w (.cells #[.int .i64 base,.slice a n cap] 42);have hc1:=hc.below hb0;have HR:Hid (∀j,j<n->∀i,i<j->f i<f j):=hr;clear hc hr;go_enter func127,ntmps127
 go_wp2;go_loop [5] (fun i=>∃k:Nat,k<=n/\i= .int .i64 k/\(∀j,j<k->f j≠x)) (fun i=>n-(intOf i).toNat)
 case atStart=>exact⟨0,Nat.zero_le _,rfl,fun j hj=>by omega⟩
 case round=>
  obtain⟨k,hk,rfl,hall⟩:=hrel;have HA:Hid (∀j,j<k->f j≠x):=hall;clear hall;by_cases hlt':k<n
  ·obtain⟨b,off,rfl,hlt,hcc⟩:=hc1 qQ;obtain⟨g1,g2⟩:=hcc k hlt';clear hcc hc1;by_cases t:(f k==x)=true
   ·go_wp2;go_ret;have t':f k=x:=(by simpa using t);exact⟨Fw (by rw[<-t',Fo,YF HR.out hlt'];rfl),hb0⟩
   ·have t':(f k==x)=false:=(by simpa using t);clear t;go_wp2;go_round;case rel=>
     refine⟨k+1,by omega,by go_num,fun j hj=>?_⟩;by_cases e:j=k
     ·subst e;simpa using t'
     ·exact HA.out j qQ
    case measure=>simp[intOf];omega
  ·clear hc1;go_wp2;go_ret;have e:k=n:=qQ;subst e;exact⟨Fw (by rw[Fo,XW HA.out];rfl),hb0⟩
theorem UD(h:Bb base n f g=true):∀i,i<n->(Lit.int .i64 (f i)).wf=true/\(Lit.int .i64 (g i)).wf=true:=fun i hi=>by
 obtain⟨h1,h2,_⟩:=Xu.1 ((Kj h).2.2 i hi);exact⟨Iz qQ qQ,Iz qQ qQ⟩
end Go.Proofs.YtdaccbddcjlkpaaGreatDoor
