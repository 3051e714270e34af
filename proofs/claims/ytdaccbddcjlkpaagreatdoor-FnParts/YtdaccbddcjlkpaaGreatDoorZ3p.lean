import Derived.Test.YtdaccbddcjlkpaaGreatDoorZ2p
set_option maxRecDepth 100000
set_option maxHeartbeats 16000000
namespace Go.Proofs.YtdaccbddcjlkpaaGreatDoor
open Go Go.RowKit Go.Deep Go.Maps Go.BigFrame Go.Shelf Go.Proofs.Tryz
open Go.Value renaming slice→qV
open Go.Obj renaming cells→qG
open _root_.Nat renaming le_trans→qj,lt_of_lt_of_le→qv,le_refl→jP,lt_irrefl→kU,zero_add→jx
open _root_.Option renaming some→jV
open _root_.List renaming range→qx
open Go.Region renaming wanted→jW
open Go.RowKit renaming Below→qN
variable {w:World}{B:Nat}
theorem MJ(tmps:Array Value)(W:World)(P:Nat)(x0 x1 x2 x3 x4 x5 x6:Value)(h:Ag W P (qG #[x0,x1,x2,x3,x4,x5,x6] 53))(h2:tmps[2]? =some (.pointer P)):
 (results Tryz.f41 tmps).run prog W= .ok (.agg #[x0,x1,x2,x3,x4,x5,x6]) W:=by
 obtain⟨z0,z1,z2,z3,z4,z5,z6⟩:=h.seven;simp[results,Tryz.results41,go_sem,h2,z0,z1,z2,z3,z4,z5,z6]
theorem Dj{e size n c:Nat}{a:Option Addr}{xs:List Value}(h:w.ownsRow B e size (qV a n c) n xs):n<=c/\c<=maxLen:=by
 rcases h.2 with⟨hv,hn⟩|⟨g,cap,cur,hv,_,_,h1,h2,_⟩
 ·simp only[Value.slice.injEq]at hv;exact⟨by omega,by rw[hv.2.2];exact Nat.zero_le _⟩
 ·simp only[Value.slice.injEq]at hv;rw[hv.2.2];exact⟨h1,h2⟩
theorem GI{ops:Array Oper}{o:Oper}{a:Act}{w:World}{K:Act->World->Prop}{Q:Exit->Act->World->Prop}{E:Prop}(hgd:o.guard=none)(s x:Operand)
 (ho:o.op= .call {callee:= .builtin .append,args:=#[s,x],argTypes:=#[51,51]})
 (B:Nat)(g:Nat)(hs:a.eval s= qV g 0 0)(hown:AI w B (qV g 0 0) [])(ad:Option Addr)(m c:Nat)(f:Nat->Int)(hx:a.eval x= qV ad m c)(hc:Bp w ad m f)
 (hm:m<=1048576)(hB:B<=w.heap.size)
 (h:∀a' c' w',AJ.new B w' ⟨a',m,c',f⟩->(m<=c'/\c'<=maxLen)->w.grownBy w' (some g)->K (a.put o.dst (qV a' m c')) w'):
 if jW o (yielded ops a.tmps)=true then Oper.wp prog o a w K Q else E:=by
 have hw:jW o (yielded ops a.tmps)=true:=by simp[jW,hgd]
 rw[if_pos hw];have L0:=hc.intL;have el:((qx m).map f).length=m:=by simp
 have L:Bl w ad m (((qx m).map f).map (Value.int .i64)):=by unfold Ec at L0;rw[el]at L0;exact L0
 refine DO underlying51 Tryz.info2 rfl qQ w s x ho B _ 0 [] hs hown ad m c (((qx m).map f).map (Value.int .i64)) hx sI L (fun u hu=>by obtain⟨y,_,rfl⟩:=List.mem_map.1 hu;rfl) qQ qQ hB fun a' c' w' h2 h3 _=>?_;rw[jx,List.nil_append]at h2;rw[jx];refine h a' c' w' ?_ (Dj h2) h3;have ho':AI w' B (qV a' ((qx m).map f).length c') ((qx m).map f):=by unfold AI;rw[el];exact h2
 have hi:Bp w' a' m f:=fun h0=>by
  obtain⟨b,off,e,hlt,hcc⟩:=(AI.lies ho').ints (by rw[el];exact h0);refine⟨b,off,e,hlt,fun i hi=>?_⟩;have:=hcc i (by rw[el];exact hi);rw[this];simp[AZ,hi]
 exact⟨⟨by unfold maxLen;simp only;omega,hi⟩,fun h0=>by have:=DT h2 h0;simpa using this⟩
theorem Qa{b m g:Nat}{F:Nat->Value}(hr:w.rowIs b 96 m F)(ho:AI w B (qV g 0 0) []):b≠g:=fun e=>by
 obtain⟨cur,hb⟩:=Mt ho (g:=g) rfl;obtain⟨c,h1,_⟩:=hr;rw[e,hb]at h1;simp at h1
theorem As.new.over{w':World}{c:As}(h:c.new B w)(hs:w.heap.size<=w'.heap.size)(hb:∀b m F,w.rowIs b 96 m F->w'.heap[b]? =w.heap[b]?):c.new B w':=h.of hs (fun b e hn=>by
 obtain⟨b',m,F,e',_,_,hr⟩:=h.2 hn;rw[e]at e';cases e';exact hb b m F hr)
theorem Ml(t:Ae)(w:World)(ht:t.at w)(hs:t.small):
 Calls prog 41 #[t.val] w fun e w'=>∃u:Ae,e= .returned u.val/\t.same u/\u.new w w'/\(u.own.n<=u.own.k/\u.own.k<=maxLen)/\qN w w w':=by
 have n4:No (qG #[.int .i64 0,.int .i64 0,qV none 0 0,.int .i64 0,qV none 0 0,qV none 0 0,.int .i64 0] 53):=⟨⟩;have b0:qN w w ((w.alloc t.blk).alloc n4):=(Bg w _).alloc sI _;have A0:=(Ag.new w t.blk).alloc n4;have R0:Ag ((w.alloc t.blk).alloc n4) (w.heap.size+1) n4:=by
  have:=Ag.new (w.alloc t.blk) n4;simpa using this
 have T0:=qC (ht.below b0);unfold Ae.blk at b0 A0 R0 T0;unfold Ae.val;obtain⟨x0,x1,x2,x3,x4,x5,x6⟩:=A0.seven;obtain⟨m1,m2,m3⟩:=hs;clear ht;unfold AJ.val at *;go_enter func41,ntmps41
 go_wp2;have n5:No (qG #[t.id,t.b1,t.c1.val,t.b2,t.c2.val,t.own,t.made] 53):=⟨⟩;generalize hV:((w.alloc n5).alloc n4)=V at *;have B0:=qC b0;have A0':Hid (∀W,qN V V W->Ag W w n5):=qC (fun W h=>A0.below h);have R0':=qC R0;have PA:Hid (∀W,qN V V W->Calls prog 90 #[.agg #[t.b1,t.c1.val]] W fun e w'=>∃d:As,e= .returned (.agg #[t.b1,d])/\t.c1.same d/\d.new W w'/\qN W W w'):=qC (fun W hW=>CN t.b1 t.c1 W (T0.out.below hW).1 m1);have PB:Hid (∀W,qN V V W->Calls prog 90 #[.agg #[t.b2,t.c2.val]] W fun e w'=>∃d:As,e= .returned (.agg #[t.b2,d])/\t.c2.same d/\d.new W w'/\qN W W w'):=qC (fun W hW=>CN t.b2 t.c2 W (T0.out.below hW).2.1 m2);have TO:Hid (∀W,qN V V W->Bp W t.own.a t.own.n t.own.h):=qC (fun W hW=>(T0.out.below hW).2.2.2);clear hV b0 A0 R0;have V0:Hid (qN V V V.drew):=qC (Below.refl _ V).drew;have V0a:Hid (qN V V ((V.alloc (qG #[] 2)).drew)):=qC (Az (Bg V _));have EO0:Hid (AI ((V.alloc (qG #[] 2)).drew) w (qV (V) 0 0) []):=qC (AI.made V w B0.out.size);have Ju:w.heap.size<V.heap.size:=(A0' V (Below.refl _ V)).lt;have nx0:¬w.heap.size=V.heap.size:=by omega
 obtain⟨y0,y1,y2,y3,y4,y5,y6⟩:=(A0' _ V0a).seven;have ne1:¬w.heap.size=w.heap.size+1:=by omega
 have ne2:¬w.heap.size+1=w.heap.size:=by omega
 have mk1:True:=trivial;have mk2:True:=trivial;go_region_held3(fun w'=>w'.cell? ⟨w,0,none⟩=some (.int .i64 t.id)/\w'.cell? ⟨w,1,none⟩=some (.int .i64 t.b1)/\w'.cell? ⟨w,2,none⟩=some t.c1.val/\w'.cell? ⟨w,3,none⟩=some (.int .i64 t.b2)/\w'.cell? ⟨w,4,none⟩=some t.c2.val/\w'.cell? ⟨w,5,none⟩=some (qV t.own.a t.own.n t.own.k)/\w'.cell? ⟨w,6,none⟩=some (.int .i64 t.made)) (first|go_keep|(simp only[*,and_self]))
  (first
    |(go_at_call 90;have mq:=mk1;clear mk1;first|(refine(PA _ V0).mono ?_;rintro e w1 ⟨d1,rfl,s1,n1,h1⟩;have V1:=qC (Af V0 h1);have LN1:=qC (n1.low (qj B0.out.size V0.out.size));have S1:=qC s1;obtain⟨e0,e1,e2,e3,e4,e5,e6⟩:=(A0' _ V1).seven;have V1a:=qC (V1.out.alloc V1.out.size (qG #[] 2));have lt1:w.heap.size<w1.heap.size:=(A0' _ V1).lt;have nx1:¬w.heap.size=w1.heap.size:=qQ;obtain⟨p0,p1,p2,p3,p4,p5,p6⟩:=(A0' _ V1a).seven)|(refine(PA _ V0a).mono ?_;rintro e w1 ⟨d1,rfl,s1,n1,h1⟩;have V1:=qC (Af V0a h1);have LN1:=qC (n1.low (qj B0.out.size V0a.out.size));have S1:=qC s1;obtain⟨e0,e1,e2,e3,e4,e5,e6⟩:=(A0' _ V1).seven;have EO1:=qC (EO0.out.below h1);have V1a:=qC (V1.out.alloc V1.out.size (qG #[] 2));have lt1:w.heap.size<w1.heap.size:=(A0' _ V1).lt;have nx1:¬w.heap.size=w1.heap.size:=qQ;obtain⟨p0,p1,p2,p3,p4,p5,p6⟩:=(A0' _ V1a).seven))
    |(go_at_call 90;have mq':=mk2;clear mk2;first|(refine(PB _ V1).mono ?_;rintro e w2 ⟨d2,rfl,s2,n2,h2⟩;have V2:=qC (Af V1 h2);have LN2:=qC (n2.low (qj B0.out.size V1.out.size));have H12:=qC h2;have S2:=qC s2;obtain⟨f0,f1,f2,f3,f4,f5,f6⟩:=(A0' _ V2).seven;have EO2:=qC (EO1.out.below h2);have V2a:=qC (V2.out.alloc V2.out.size (qG #[] 2));have lt2:w.heap.size<w2.heap.size:=(A0' _ V2).lt;have nx2:¬w.heap.size=w2.heap.size:=qQ;obtain⟨r0,r1,r2,r3,r4,r5,r6⟩:=(A0' _ V2a).seven)|(refine(PB _ V1).mono ?_;rintro e w2 ⟨d2,rfl,s2,n2,h2⟩;have V2:=qC (Af V1 h2);have LN2:=qC (n2.low (qj B0.out.size V1.out.size));have H12:=qC h2;have S2:=qC s2;obtain⟨f0,f1,f2,f3,f4,f5,f6⟩:=(A0' _ V2).seven;have V2a:=qC (V2.out.alloc V2.out.size (qG #[] 2));have lt2:w.heap.size<w2.heap.size:=(A0' _ V2).lt;have nx2:¬w.heap.size=w2.heap.size:=qQ;obtain⟨r0,r1,r2,r3,r4,r5,r6⟩:=(A0' _ V2a).seven)|(have EOm:=qC (AI.made w1 w (qj B0.out.size V1.out.size));(refine(PB _ V1a).mono ?_;rintro e w2 ⟨d2,rfl,s2,n2,h2⟩;have V2:=qC (Af V1a h2);have LN2:=qC (n2.low (qj B0.out.size V1a.out.size));have H12:=qC (Af (Bg w1 (qG #[] 2)) h2);have S2:=qC s2;obtain⟨f0,f1,f2,f3,f4,f5,f6⟩:=(A0' _ V2).seven;have EO2:=qC (EOm.out.below h2);have V2a:=qC (V2.out.alloc V2.out.size (qG #[] 2));have lt2:w.heap.size<w2.heap.size:=(A0' _ V2).lt;have nx2:¬w.heap.size=w2.heap.size:=qQ;obtain⟨r0,r1,r2,r3,r4,r5,r6⟩:=(A0' _ V2a).seven)))
    |(refine GI qK _ _ qK w V qK EO2 _ _ _ t.own.h qK (TO _ V2) m3 (V2.out.size |> qj B0.out.size) ?_;intro a3 c3 w3 n3 cp3 g3;have CAP:=qC cp3;clear cp3;have HB3:Hid (∀b m F,w2.rowIs b 96 m F->w3.heap[b]? =w2.heap[b]?):=qC (fun b m F hr=>g3.block b hr.lt (fun e=>Qa hr EO2 (jV.inj e)));have SZ3:=qC g3.size;have NG:Hid (∀k,k<V.heap.size->some k≠some V):=qC (fun k hk e=>kU _ (qv (jV.inj e▸hk) (jP _)));have B3:Hid (qN V V w3):=qC (V2.out.trans (below_grown g3 V2.out.size (fun j hj=>by cases hj;exact jP _)));have X3:=qC (V2.out);obtain⟨g0,g1,g2,g3',g4,g5,g6⟩:=(A0' _ B3).seven;obtain⟨k0,k1,k2,k3,k4,k5,k6⟩:=(R0'.out.below B3).seven;have kf:=(R0'.out.below B3).jC;have N3:=qC n3;have G3:=qC g3;clear n3 g3)
    |(refine GI qK _ _ qK w w1 qK EO2 _ _ _ t.own.h qK (TO _ V2) m3 (V2.out.size |> qj B0.out.size) ?_;intro a3 c3 w3 n3 cp3 g3;have CAP:=qC cp3;clear cp3;have HB3:Hid (∀b m F,w2.rowIs b 96 m F->w3.heap[b]? =w2.heap[b]?):=qC (fun b m F hr=>g3.block b hr.lt (fun e=>Qa hr EO2 (jV.inj e)));have SZ3:=qC g3.size;have NG:Hid (∀k,k<V.heap.size->some k≠some w1):=qC (fun k hk e=>kU _ (qv (jV.inj e▸hk) (V1.out.size)));have B3:Hid (qN V V w3):=qC (V2.out.trans (below_grown g3 V2.out.size (fun j hj=>by cases hj;exact V1.out.size)));have X3:=qC (V2.out);obtain⟨g0,g1,g2,g3',g4,g5,g6⟩:=(A0' _ B3).seven;obtain⟨k0,k1,k2,k3,k4,k5,k6⟩:=(R0'.out.below B3).seven;have kf:=(R0'.out.below B3).jC;have N3:=qC n3;have G3:=qC g3;clear n3 g3)
    |(refine GI qK _ _ qK w w2 qK (AI.made w2 w (qj B0.out.size V2.out.size)) _ _ _ t.own.h qK (TO _ V2a) m3 (V2a.out.size |> qj B0.out.size) ?_;intro a3 c3 w3 n3 cp3 g3;have CAP:=qC cp3;clear cp3;have HB3:Hid (∀b m F,w2.rowIs b 96 m F->w3.heap[b]? =w2.heap[b]?):=qC (fun b m F hr=>(g3.block b (qv hr.lt ((Below.refl _ w2).alloc (jP _) (qG #[] 2)).size) (fun e=>Nat.ne_of_lt hr.lt (jV.inj e))).trans (blk_alloc_lt _ _ _ hr.lt));have SZ3:=qC (qj ((Below.refl _ w2).alloc (jP _) (qG #[] 2)).size g3.size);have NG:Hid (∀k,k<V.heap.size->some k≠some w2):=qC (fun k hk e=>kU _ (qv (jV.inj e▸hk) (V2.out.size)));have B3:Hid (qN V V w3):=qC (V2a.out.trans (below_grown g3 V2a.out.size (fun j hj=>by cases hj;exact V2.out.size)));have X3:=qC (V2a.out);obtain⟨g0,g1,g2,g3',g4,g5,g6⟩:=(A0' _ B3).seven;obtain⟨k0,k1,k2,k3,k4,k5,k6⟩:=(R0'.out.below B3).seven;have kf:=(R0'.out.below B3).jC;have N3:=qC n3;have G3:=qC g3;clear n3 g3))
 all_goals(
  have Q1:=qC ((LN1.out.below H12).over SZ3 HB3);have Q2:=qC (LN2.out.over SZ3 HB3);have BB:=qC (Af B0 B3);have RR:=qC (R0'.out.below B3);clear LN1 LN2 H12 HB3 SZ3 G3 NG X3 V0 V0a EO0 PA PB TO A0';go_wp2;refine bodyPost_ret (MJ _ _ (w.heap.size+1) (.int .i64 t.id) (.int .i64 t.b1) (qV d1.a d1.n d1.k) (.int .i64 t.b2) (qV d2.a d2.n d2.k) (qV a3 t.own.n c3) (.int .i64 t.made) (Ag.all7 RR _ _ _ _ _ _ _) rfl) rfl ⟨⟨t.id,t.b1,d1,t.b2,d2,⟨a3,t.own.n,c3,t.own.h⟩,t.made⟩,rfl,⟨rfl,rfl,S1,rfl,S2,⟨rfl,rfl⟩,rfl⟩,⟨?_,?_,?_⟩,CAP,?_⟩
  ·refine Q1.out.of sI (fun g hg hn'=>?_);have q2:=Q1.out.ne RR qX g hg hn';iterate 7 rw[blk_setCell_other _ _ _ _ qJ]
  ·refine Q2.out.of sI (fun g hg hn'=>?_);have q2:=Q2.out.ne RR qX g hg hn';iterate 7 rw[blk_setCell_other _ _ _ _ qJ]
  ·refine N3.out.of sI (fun g hg hn'=>?_);have q2:=N3.out.ne RR qX g hg hn';iterate 7 rw[blk_setCell_other _ _ _ _ qJ]
  ·iterate 7 refine Below.setCell ?_ qJ _
   exact BB.out)
open Go.Value renaming string→sT,int→iT
open Go.IntKind renaming i64→qH
open _root_.List renaming mem_map→jy,nil_append→zv
open _root_.Nat renaming zero_le→qy
open Go.World renaming ownsRow_made→zW
open _root_.ByteArray renaming mk→qD
open Go renaming World→qM
variable {w:qM}{B n c:Nat}{a:Option Addr}
theorem II(tmps:Array Value)(W:qM)(P:Nat)(x0 x1 x2 x3 x4 x5 x6 x7 x8 x9:Value)(h:Ag W P (qG #[x0,x1,x2,x3,x4,x5,x6,x7,x8,x9] 59))(h2:tmps[2]? =some (.pointer P)):
 (results Tryz.f42 tmps).run prog W= .ok (.agg #[x0,x1,x2,x3,x4,x5,x6,x7,x8,x9]) W:=by
 obtain⟨z0,z1,z2,z3,z4,z5,z6,z7,z8,z9⟩:=h.jE;simp[results,Tryz.results42,go_sem,h2,z0,z1,z2,z3,z4,z5,z6,z7,z8,z9]
theorem Rn{f:Nat->ByteArray}(h:w.ownsRow B 9 1 (qV a n c) n ((qx n).map (fun i=>Value.string (f i))))(hn:n<=1048576)(hz:∀i,i<n->(f i).size<=maxLen):AE.new B w ⟨a,n,c,f⟩:=by
 have hi:JL w a n f:=fun h0=>by
  obtain⟨b,off,e,hlt,hcc⟩:=Bl.own h h0;exact⟨b,off,e,hlt,fun i hi=>hcc i _ (by simp[hi])⟩
 exact⟨⟨by unfold maxLen;simp only;omega,hi,hz⟩,fun h0=>Ng h h0⟩
theorem Rr{f:Nat->Int}(h:w.ownsRow B 2 1 (qV a n c) n (((qx n).map f).map (Value.int .i64)))(hn:n<=1048576):AJ.new B w ⟨a,n,c,f⟩:=by
 have el:((qx n).map f).length=n:=by simp
 have ho':AI w B (qV a ((qx n).map f).length c) ((qx n).map f):=by unfold AI;rw[el];exact h
 have hi:Bp w a n f:=fun h0=>by
  obtain⟨b,off,e,hlt,hcc⟩:=(AI.lies ho').ints (by rw[el];exact h0);refine⟨b,off,e,hlt,fun i hi=>?_⟩;have:=hcc i (by rw[el];exact hi);rw[this];simp[AZ,hi]
 exact⟨⟨by unfold maxLen;simp only;omega,hi⟩,fun h0=>by have:=DT h h0;simpa using this⟩
theorem My(t:Ab)(w:qM)(ht:t.at w)(hs:t.small):
 Calls prog 42 #[t.val] w fun e w'=>∃u:Ab,e= .returned u.val/\t.same u/\u.new w w'/\(u.jA.n<=u.jA.k/\u.jA.k<=maxLen)/\qN w w w':=by
 have b0:qN w w ((w.alloc t.blk).alloc FJ):=(Bg w _).alloc sI _;have A0:=(Ag.new w t.blk).alloc FJ;have R0:Ag ((w.alloc t.blk).alloc FJ) (w.heap.size+1) FJ:=by
  have:=Ag.new (w.alloc t.blk) FJ;simpa using this
 have HT:=qC ht;obtain⟨m1,m2,m3,m4,m5⟩:=hs;have ne1:¬w.heap.size+1=w.heap.size:=by omega
 have ne2:¬w.heap.size=w.heap.size+1:=by omega
 have PA:Hid (∀W,qN w w W->Calls prog 90 #[.agg #[t.b1,t.c1.val]] W fun e w'=>∃d:As,e= .returned (.agg #[t.b1,d])/\t.c1.same d/\d.new W w'/\qN W W w'):=qC (fun W hW=>CN t.b1 t.c1 W (HT.out.below hW).1 m1);have PB:Hid (∀W,qN w w W->Calls prog 90 #[.agg #[t.b2,t.c2.val]] W fun e w'=>∃d:As,e= .returned (.agg #[t.b2,d])/\t.c2.same d/\d.new W w'/\qN W W w'):=qC (fun W hW=>CN t.b2 t.c2 W (HT.out.below hW).2.2.2.1 m5);have LS:Hid (∀W,qN w w W->Bl W t.jA.a t.jA.n ((qx t.jA.n).map (fun i=>Value.string (t.jA.f i)))):=qC (fun W hW=>Mm (HT.out.below hW).2.1.2.1);have LI:Hid (∀W,qN w w W->Bl W t.own.a t.own.n (((qx t.own.n).map t.own.h).map (Value.int .i64))):=qC (fun W hW=>by
  have L0:=(HT.out.below hW).2.2.1.2.intL;have el:((qx t.own.n).map t.own.h).length=t.own.n:=by simp
  unfold Ec at L0;rw[el]at L0;exact L0)
 have ZI:=qC (HT.out.2.1.2.2);unfold Ab.blk FJ at b0 A0 R0;unfold Ab.val;unfold As.val AJ.val AE.val at *;clear ht;obtain⟨x0,x1,x2,x3,x4,x5,x6,x7,x8,x9⟩:=A0.jE;have C1:=qC (PA.out _ b0);go_enter func42,ntmps42
 go_wp2_with fail
 refine C1.out.mono ?_;rintro e w1 ⟨d1,rfl,s1,n1,h1⟩;have S1:=qC s1;have A1:=A0.below h1;have R1:=R0.below h1;have B1:=Af b0 h1;have L1:=b0.size;have N1:=qC (n1.low L1);have af:=A1.jC;have A1':Ag ((w1.setCell ⟨w,3,none⟩ (iT qH t.b1)).setCell ⟨w,4,none⟩ (qV d1.a d1.n d1.k)) w (qG #[t.id,t.kind,t.up,t.b1,d1,sT t.data,t.jA,t.own,t.b2,t.c2] 59):=(A1.jB (i:=3) (iT qH t.b1)).jB (i:=4) (qV d1.a d1.n d1.k);have n7:No (qG #[iT qH 0,iT qH 0,iT qH 0,iT qH 0,qV none 0 0,sT (qD #[]),qV none 0 0,qV none 0 0,iT qH 0,qV none 0 0] 59):=⟨⟩;have n3:No n7:=⟨⟩;have R1':Ag ((w1.setCell ⟨w,3,none⟩ (iT qH t.b1)).setCell ⟨w,4,none⟩ (qV d1.a d1.n d1.k)) (w.heap.size+1) n3:=(R1.other qQ _).other qQ _;have B1':qN w w ((w1.setCell ⟨w,3,none⟩ (iT qH t.b1)).setCell ⟨w,4,none⟩ (qV d1.a d1.n d1.k)):=(B1.setCell nr _).setCell nr _;have N1':Hid (d1.new w ((w1.setCell ⟨w,3,none⟩ (iT qH t.b1)).setCell ⟨w,4,none⟩ (qV d1.a d1.n d1.k))):=qC (N1.out.of sI (fun g hg hn'=>by
  have q1:=N1.out.ne A1 qX g hg hn';iterate 2 rw[blk_setCell_other _ _ _ _ qJ]))
 obtain⟨y0,y1,y2,y3,y4,y5,y6,y7,y8,y9⟩:=A1.jE;obtain⟨z0,z1,z2,z3,z4,z5,z6,z7,z8,z9⟩:=A1'.jE;have C2:=qC (PB.out _ B1');clear x0 x1 x2 x3 x4 x5 x6 x7 x8 x9 C1 s1 n1 h1 N1 A0 R0 b0 R1 B1;go_wp2_with fail
 refine C2.out.mono ?_;rintro e w2 ⟨d2,rfl,s2,n2,h2⟩;have S2:=qC s2;have A2:=A1'.below h2;have R2:=R1'.below h2;have B2:=Af B1' h2;have N1:=qC (N1'.out.below h2);have N2:=qC (n2.low B1'.size);have af2:=A2.jC;have n4:No (qG #[t.id,t.kind,t.up,t.b1,d1,sT t.data,t.jA,t.own,t.b2,d2] 59):=⟨⟩;have A2':Ag ((w2.setCell ⟨w,8,none⟩ (iT qH t.b2)).setCell ⟨w,9,none⟩ (qV d2.a d2.n d2.k)) w n4:=(A2.jB (i:=8) (iT qH t.b2)).jB (i:=9) (qV d2.a d2.n d2.k);have R2':Ag ((w2.setCell ⟨w,8,none⟩ (iT qH t.b2)).setCell ⟨w,9,none⟩ (qV d2.a d2.n d2.k)) (w.heap.size+1) n3:=(R2.other qQ _).other qQ _;have B2':qN w w ((w2.setCell ⟨w,8,none⟩ (iT qH t.b2)).setCell ⟨w,9,none⟩ (qV d2.a d2.n d2.k)):=(B2.setCell nr _).setCell nr _;have M1:Hid (d1.new w ((w2.setCell ⟨w,8,none⟩ (iT qH t.b2)).setCell ⟨w,9,none⟩ (qV d2.a d2.n d2.k))):=qC (N1.out.of sI (fun g hg hn'=>by
  have q1:=N1.out.ne A2 qX g hg hn';iterate 2 rw[blk_setCell_other _ _ _ _ qJ]))
 have M2:Hid (d2.new w ((w2.setCell ⟨w,8,none⟩ (iT qH t.b2)).setCell ⟨w,9,none⟩ (qV d2.a d2.n d2.k))):=qC (N2.out.of sI (fun g hg hn'=>by
  have q1:=N2.out.ne A2 qX g hg hn';iterate 2 rw[blk_setCell_other _ _ _ _ qJ]))
 clear y0 y1 y2 y3 y4 y5 y6 y7 y8 y9 z0 z1 z2 z3 z4 z5 z6 z7 z8 z9 C2 s2 n2 h2 N1 N2 N1' A1 A1' R1' B1' R2 B2 af L1;obtain⟨y0,y1,y2,y3,y4,y5,y6,y7,y8,y9⟩:=A2.jE;have n5:Nw (((w2.setCell ⟨w,8,none⟩ (iT qH t.b2)).setCell ⟨w,9,none⟩ (qV d2.a d2.n d2.k)).alloc (qG #[] 9)):=⟨⟩;have b3:qN ((w2.setCell ⟨w,8,none⟩ (iT qH t.b2)).setCell ⟨w,9,none⟩ (qV d2.a d2.n d2.k)).heap.size ((w2.setCell ⟨w,8,none⟩ (iT qH t.b2)).setCell ⟨w,9,none⟩ (qV d2.a d2.n d2.k)) n5:=Bg _ _;have e2:((w2.setCell ⟨w,8,none⟩ (iT qH t.b2)).setCell ⟨w,9,none⟩ (qV d2.a d2.n d2.k)).heap.size=w2.heap.size:=by simp
 have n6:Nv (qV (w2) 0 0):=⟨⟩;have OM:Hid ((n5:qM).ownsRow w 9 1 n6 0 []):=qC (by
  have:=zW (e:=9) (size:=1) ((w2.setCell ⟨w,8,none⟩ (iT qH t.b2)).setCell ⟨w,9,none⟩ (qV d2.a d2.n d2.k)) #[] 0 B2'.size (qy _) rfl;rw[e2]at this;exact this)
 have LM:=qC (LS.out _ (Af B2' b3));have SZ:=(Af B2' b3).size;have P2:w.heap.size+1<w2.heap.size:=by have:=R2'.lt;rw[e2]at this;exact this
 obtain⟨z0,z1,z2,z3,z4,z5,z6,z7,z8,z9⟩:=(A2'.below b3).jE;have F3:Hid (∀(a3:Option Addr) (c3:Nat) (w3:qM),w3.ownsRow w 9 1 (qV a3 t.jA.n c3) t.jA.n ((qx t.jA.n).map (fun i=>Value.string (t.jA.f i)))->(n5:qM).grownBy w3 (some w2)->Ag w3 w n4/\Ag w3 (w.heap.size+1) n3/\qN w w w3/\d1.new w w3/\d2.new w w3/\AE.new w w3 ⟨a3,t.jA.n,c3,t.jA.f⟩):=qC (fun a3 c3 w3 o3 g3=>by
  have rn:∀c:As,c.new w ((w2.setCell ⟨w,8,none⟩ (iT qH t.b2)).setCell ⟨w,9,none⟩ (qV d2.a d2.n d2.k))->c.new w w3:=fun c hc=>(hc.below b3).of g3.size (fun b hb hn=>g3.block b (by obtain⟨b',_,_,e',_,_,hr⟩:=(hc.below b3).2 hn;rw[hb]at e';cases e';exact hr.lt) (fun e=>by
   obtain⟨b',_,_,e',_,_,hr⟩:=hc.2 hn;rw[hb]at e';cases e';have h1:=hr.lt;have h2:=jV.inj e;rw[e2]at h1;omega))
  refine⟨(A2'.below b3).grown g3 sO,(R2'.below b3).grown g3 sO,(Af B2' b3).trans (below_grown g3 SZ (fun j hj=>by cases hj;omega)),rn d1 M1,rn d2 M2,Rn o3 m3.1 ZI⟩)
 have AR3:Hid (∀(a3:Option Addr) (c3:Nat) (w3:qM),Ag w3 w n4->Ag w3 (w.heap.size+1) n3->qN w w w3->d1.new w w3->d2.new w w3->AE.new w w3 ⟨a3,t.jA.n,c3,t.jA.f⟩->
  Ag (w3.setCell ⟨w,6,none⟩ (qV a3 t.jA.n c3)) w (qG #[t.id,t.kind,t.up,t.b1,d1,sT t.data,qV a3 t.jA.n c3,t.own,t.b2,d2] 59)/\Ag (w3.setCell ⟨w,6,none⟩ (qV a3 t.jA.n c3)) (w.heap.size+1) n3/\qN w w (w3.setCell ⟨w,6,none⟩ (qV a3 t.jA.n c3))/\d1.new w (w3.setCell ⟨w,6,none⟩ (qV a3 t.jA.n c3))/\d2.new w (w3.setCell ⟨w,6,none⟩ (qV a3 t.jA.n c3))/\AE.new w (w3.setCell ⟨w,6,none⟩ (qV a3 t.jA.n c3)) ⟨a3,t.jA.n,c3,t.jA.f⟩):=qC (fun a3 c3 w3 A R B k1 k2 k4=>
  ⟨A.jB (i:=6) _,R.other qQ _,B.setCell nr _,k1.of sI (fun g hg hn'=>by have q1:=k1.ne A qX g hg hn';rw[blk_setCell_other _ _ _ _ qJ]),k2.of sI (fun g hg hn'=>by have q1:=k2.ne A qX g hg hn';rw[blk_setCell_other _ _ _ _ qJ]),k4.of sI (fun g hg hn'=>by have q1:=k4.ne A qX g hg hn';rw[blk_setCell_other _ _ _ _ qJ])⟩)
 have O3:Hid (∀(a3:Option Addr) (c3:Nat) (w3:qM),qN w w (w3.setCell ⟨w,6,none⟩ (qV a3 t.jA.n c3))->((w3.setCell ⟨w,6,none⟩ (qV a3 t.jA.n c3)).alloc (qG #[] 2)).ownsRow w 2 1 (qV (w3) 0 0) 0 []):=qC (fun a3 c3 w3 B=>by
  have:=zW (e:=2) (size:=1) (w3.setCell ⟨w,6,none⟩ (qV a3 t.jA.n c3)) #[] 0 B.size (qy _) rfl;have e3:(w3.setCell ⟨w,6,none⟩ (qV a3 t.jA.n c3)).heap.size=w3.heap.size:=by simp
  rw[e3]at this;exact this)
 have F4:Hid (∀(a3:Option Addr) (c3:Nat) (w3:qM) (a4:Option Addr) (c4:Nat) (w4:qM),Ag (w3.setCell ⟨w,6,none⟩ (qV a3 t.jA.n c3)) w (qG #[t.id,t.kind,t.up,t.b1,d1,sT t.data,qV a3 t.jA.n c3,t.own,t.b2,d2] 59)->Ag (w3.setCell ⟨w,6,none⟩ (qV a3 t.jA.n c3)) (w.heap.size+1) n3->qN w w (w3.setCell ⟨w,6,none⟩ (qV a3 t.jA.n c3))->d1.new w (w3.setCell ⟨w,6,none⟩ (qV a3 t.jA.n c3))->d2.new w (w3.setCell ⟨w,6,none⟩ (qV a3 t.jA.n c3))->AE.new w (w3.setCell ⟨w,6,none⟩ (qV a3 t.jA.n c3)) ⟨a3,t.jA.n,c3,t.jA.f⟩->w4.ownsRow w 2 1 (qV a4 t.own.n c4) t.own.n (((qx t.own.n).map t.own.h).map (Value.int .i64))->((w3.setCell ⟨w,6,none⟩ (qV a3 t.jA.n c3)).alloc (qG #[] 2)).grownBy w4 (some w3)->
  Ag w4 w (qG #[t.id,t.kind,t.up,t.b1,d1,sT t.data,qV a3 t.jA.n c3,t.own,t.b2,d2] 59)/\Ag w4 (w.heap.size+1) n3/\qN w w w4/\d1.new w w4/\d2.new w w4/\AE.new w w4 ⟨a3,t.jA.n,c3,t.jA.f⟩/\AJ.new w w4 ⟨a4,t.own.n,c4,t.own.h⟩):=qC (fun a3 c3 w3 a4 c4 w4 A R B k1 k2 k4 o4 g4=>by
  have e3:(w3.setCell ⟨w,6,none⟩ (qV a3 t.jA.n c3)).heap.size=w3.heap.size:=by simp
  have b4:qN (w3.setCell ⟨w,6,none⟩ (qV a3 t.jA.n c3)).heap.size (w3.setCell ⟨w,6,none⟩ (qV a3 t.jA.n c3)) ((w3.setCell ⟨w,6,none⟩ (qV a3 t.jA.n c3)).alloc (qG #[] 2)):=Bg _ _;have l1:=A.lt;have l2:=R.lt;rw[e3]at l1 l2;have rn:∀c:As,c.new w (w3.setCell ⟨w,6,none⟩ (qV a3 t.jA.n c3))->c.new w w4:=fun c hc=>(hc.below b4).of g4.size (fun b hb hn=>g4.block b (by obtain⟨b',_,_,e',_,_,hr⟩:=(hc.below b4).2 hn;rw[hb]at e';cases e';exact hr.lt) (fun e=>by
   obtain⟨b',_,_,e',_,_,hr⟩:=hc.2 hn;rw[hb]at e';cases e';have h1:=hr.lt;have h2:=jV.inj e;rw[e3]at h1;omega))
  refine⟨(A.below b4).grown g4 sO,(R.below b4).grown g4 sO,(Af B b4).trans (below_grown g4 (Af B b4).size (fun j hj=>by cases hj;omega)),rn d1 k1,rn d2 k2,(k4.below b4).of g4.size (fun b hb hn=>g4.block b (by obtain⟨b',_,_,e',_,_,hr⟩:=(k4.below b4).2 hn;rw[hb]at e';cases e';exact hr.lt) (fun e=>by
   obtain⟨b',_,_,e',_,_,hr⟩:=k4.2 hn;rw[hb]at e';cases e';have h1:=hr.lt;have h2:=jV.inj e;rw[e3]at h1;omega)),Rr o4 m4⟩)
 have mk1:True:=trivial;have bb4:Hid (∀W:qM,qN W W (W.alloc (qG #[] 2))):=qC (fun W=>Bg _ _);have ln1:t.jA.n<=1048576:=m3.1;clear A2' R2' B2' M1 M2 b3 A2;go_wp2_with(first
  |(have mq:=mk1;clear mk1;refine Cl underlying57 Tryz.info9 rfl qQ _ rfl _ _ rfl w n6 0 [] rfl OM t.jA.a t.jA.n t.jA.k ((qx t.jA.n).map (fun i=>Value.string (t.jA.f i))) rfl sI LM (fun u hu=>by obtain⟨y,_,rfl⟩:=jy.1 hu;rfl) qQ qQ SZ ?_;intro a3 c3 w3 o3 g3;rw[jx,zv]at o3;rw[jx];have CAP:=qC (Dj o3);obtain⟨A3,R3,B3,K1,K2,K4⟩:=F3.out a3 c3 w3 o3 g3;obtain⟨A3',R3',B3',K1',K2',K4'⟩:=AR3.out a3 c3 w3 A3 R3 B3 K1 K2 K4;have HA3:=qC A3';have HR3:=qC R3';have HB3:=qC B3';have HK1:=qC K1';have HK2:=qC K2';have HK4:=qC K4';have OM2:=qC (O3.out a3 c3 w3 B3');have LM2:=qC (LI.out _ (Af B3' (bb4 _)));have SZ2:=qC (Af B3' (bb4 _)).size;obtain⟨p0,p1,p2,p3,p4,p5,p6,p7,p8,p9⟩:=A3.jE;have pf:=A3.jC;obtain⟨q0,q1,q2,q3,q4,q5,q6,q7,q8,q9⟩:=(A3'.below (bb4 _)).jE;clear o3 g3 A3 R3 B3 K1 K2 K4 A3' R3' B3' K1' K2' K4' F3 AR3 O3 OM LM)
  |(refine Cl underlying51 Tryz.info2 rfl qQ _ rfl _ _ rfl w (qV (some ⟨w3,0,none⟩) 0 0) 0 [] rfl OM2 t.own.a t.own.n t.own.k (((qx t.own.n).map t.own.h).map (Value.int .i64)) rfl sI LM2 (fun u hu=>by obtain⟨y,_,rfl⟩:=jy.1 hu;rfl) qQ qQ SZ2 ?_;intro a4 c4 w4 o4 g4;rw[jx,zv]at o4;rw[jx];obtain⟨A4,R4,B4,K1,K2,K4,K3⟩:=F4.out a3 c3 w3 a4 c4 w4 HA3 HR3 HB3 HK1 HK2 HK4 o4 g4;have HA4:=qC A4;have HR4:=qC R4;have HB4:=qC B4;have J1:=qC K1;have J2:=qC K2;have J3:=qC K3;have J4:=qC K4;obtain⟨u0,u1,u2,u3,u4,u5,u6,u7,u8,u9⟩:=A4.jE;have uf:=A4.jC;have A4':Ag (w4.setCell ⟨w,7,none⟩ (qV a4 t.own.n c4)) w (qG #[t.id,t.kind,t.up,t.b1,d1,sT t.data,qV a3 t.jA.n c3,qV a4 t.own.n c4,t.b2,d2] 59):=A4.jB (i:=7) _;have R4':Ag (w4.setCell ⟨w,7,none⟩ (qV a4 t.own.n c4)) (w.heap.size+1) n7:=R4.other qQ _;have HR4':=qC R4';obtain⟨v0,v1,v2,v3,v4,v5,v6,v7,v8,v9⟩:=A4'.jE;obtain⟨r0,r1,r2,r3,r4,r5,r6,r7,r8,r9⟩:=R4'.jE;have rf:=R4'.jC;clear o4 g4 A4 R4 B4 K1 K2 K3 K4 A4' R4'))
 refine bodyPost_ret (II _ _ (w.heap.size+1) (iT qH t.id) (iT qH t.kind) (iT qH t.up) (iT qH t.b1) (qV d1.a d1.n d1.k) (sT t.data) (qV a3 t.jA.n c3) (qV a4 t.own.n c4) (iT qH t.b2) (qV d2.a d2.n d2.k) (Ag.all10 HR4' _ _ _ _ _ _ _ _ _ _) rfl) rfl ⟨⟨t.id,t.kind,t.up,t.b1,d1,t.data,⟨a3,t.jA.n,c3,t.jA.f⟩,⟨a4,t.own.n,c4,t.own.h⟩,t.b2,d2⟩,rfl,⟨rfl,rfl,rfl,rfl,S1,rfl,⟨rfl,rfl⟩,⟨rfl,rfl⟩,rfl,S2⟩,⟨?_,?_,?_,?_⟩,CAP,?_⟩
 ·refine J1.out.of sI (fun g hg hn'=>?_);have q1:=J1.out.ne HA4 qX g hg hn';have q2:=J1.out.ne HR4 qX g hg hn';iterate 11 rw[blk_setCell_other _ _ _ _ qJ]
 ·refine J4.out.of sI (fun g hg hn'=>?_);have q1:=J4.out.ne HA4 qX g hg hn';have q2:=J4.out.ne HR4 qX g hg hn';iterate 11 rw[blk_setCell_other _ _ _ _ qJ]
 ·refine J3.out.of sI (fun g hg hn'=>?_);have q1:=J3.out.ne HA4 qX g hg hn';have q2:=J3.out.ne HR4 qX g hg hn';iterate 11 rw[blk_setCell_other _ _ _ _ qJ]
 ·refine J2.out.of sI (fun g hg hn'=>?_);have q1:=J2.out.ne HA4 qX g hg hn';have q2:=J2.out.ne HR4 qX g hg hn';iterate 11 rw[blk_setCell_other _ _ _ _ qJ]
 ·iterate 11 refine Below.setCell ?_ qJ _
  exact HB4.out
open _root_.Array renaming getElem?_eq_some_iff→jD
open _root_.List renaming mem_append→jq,mem_singleton→kJ
open Go renaming Value→qB
variable {w w':World}{P t B B' i:Nat}{c:AJ}{v vt vo:qB}{lt:List Ae}{lo:List Ab}
structure Dk(w w':World):Prop where
 size:w.heap.size<=w'.heap.size
 block:∀(k:Nat) (cs:Array qB) (t:TypeId),w.heap[k]? =some (Obj.cells cs t (0,0))->t≠53->t≠59->w'.heap[k]? =w.heap[k]?
theorem Dk.blk{cs:Array qB}(h:Dk w w')(hb:Ag w P (qG cs t))(h1:t≠53)(h2:t≠59):Ag w' P (qG cs t):=(h.block P cs t hb h1 h2).trans hb
theorem Dk.of_below(h:Below w w w'):Dk w w':=⟨h.size,fun k _ _ hk _ _=>h.block k (jD.1 hk).1⟩
theorem Lo{b ty m:Nat}{F:Nat->qB}(hr:w.rowIs b ty m F):∃cs,w.heap[b]? =some (qG cs ty (0,0)):=by
 obtain⟨c,h1,_⟩:=hr;exact⟨c,h1⟩
theorem AJ.new.over(h:c.new B w)(hs:w.heap.size<=w'.heap.size)(hb:∀b m F,w.rowIs b 2 m F->w'.heap[b]? =w.heap[b]?):c.new B w':=h.of hs (fun b e hn=>by
 obtain⟨b',m,F,e',_,_,hr⟩:=h.2 hn;rw[e]at e';cases e';exact hb b m F hr)
theorem AE.new.over{c:AE}(h:c.new B w)(hs:w.heap.size<=w'.heap.size)(hb:∀b m F,w.rowIs b 9 m F->w'.heap[b]? =w.heap[b]?):c.new B w':=h.of hs (fun b e hn=>by
 obtain⟨b',m,F,e',_,_,hr⟩:=h.2 hn;rw[e]at e';cases e';exact hb b m F hr)
structure Em(w w':World):Prop where
 size:w.heap.size<=w'.heap.size
 block:∀(k:Nat) (cs:Array qB) (t:TypeId),w.heap[k]? =some (Obj.cells cs t (0,0))->t=96∨t=2∨t=9->w'.heap[k]? =w.heap[k]?
theorem Dk.l(h:Dk w w'):Em w w':=⟨h.size,fun k cs t hk ht=>h.block k cs t hk (by rcases ht with rfl|rfl|rfl<;>decide) (by rcases ht with rfl|rfl|rfl<;>decide)⟩
theorem As.new.keeps{c:As}(h:c.new B w)(k:Em w w'):c.new B w':=h.over k.size (fun b m F hr=>by obtain⟨cs,hh⟩:=Lo hr;exact k.block b cs _ hh (.inl rfl))
theorem AJ.new.keeps(h:c.new B w)(k:Em w w'):c.new B w':=h.over k.size (fun b m F hr=>by obtain⟨cs,hh⟩:=Lo hr;exact k.block b cs _ hh (.inr (.inl rfl)))
theorem AE.new.keeps{c:AE}(h:c.new B w)(k:Em w w'):c.new B w':=h.over k.size (fun b m F hr=>by obtain⟨cs,hh⟩:=Lo hr;exact k.block b cs _ hh (.inr (.inr rfl)))
theorem Ae.new.keeps{t:Ae}(h:t.new B w)(k:Em w w'):t.new B w':=⟨h.1.keeps k,h.2.1.keeps k,h.2.2.keeps k⟩
theorem Ab.new.keeps{t:Ab}(h:t.new B w)(k:Em w w'):t.new B w':=⟨h.1.keeps k,h.2.1.keeps k,h.2.2.1.keeps k,h.2.2.2.keeps k⟩
theorem Ae.new.low{t:Ae}(h:t.new B w)(hB:B'<=B):t.new B' w:=⟨h.1.low hB,h.2.1.low hB,h.2.2.low hB⟩
theorem Ab.new.low{t:Ab}(h:t.new B w)(hB:B'<=B):t.new B' w:=⟨h.1.low hB,h.2.1.low hB,h.2.2.1.low hB,h.2.2.2.low hB⟩
theorem Aq{cs:Array qB}(hb:Ag w P (qG cs t))(ht:t≠96/\t≠2/\t≠9)(v:qB):Em w (w.setCell ⟨P,i,none⟩ v):=by
 refine⟨by rw[nblk_setCell];exact Nat.le_refl _,fun k ck tk hk hh=>blk_setCell_other _ _ _ _ (fun e=>?_)⟩;dsimp only at e;unfold Ag at hb;rw[e]at hk;rw[hk]at hb;simp only[jV.injEq,Obj.cells.injEq,and_true]at hb;rcases hh with h|h|h
 ·exact ht.1 (hb.2.symm.trans h)
 ·exact ht.2.1 (hb.2.symm.trans h)
 ·exact ht.2.2 (hb.2.symm.trans h)
theorem Du.set{l:List Ae}{cs:Array qB}(h:Du w B v l)(hb:Ag w P (qG cs t))(ht:t≠53)(u:qB):Du (w.setCell ⟨P,i,none⟩ u) B v l:=by
 refine⟨h.1,?_⟩;rcases h.2 with hn|⟨g,cap,cur,hv,hbg,hg,rest⟩
 ·exact .inl hn
 ·refine .inr ⟨g,cap,cur,hv,hbg,?_,rest⟩;have hh:Ag w g (qG cur 53):=hg;refine hh.other (fun e=>?_) u;unfold Ag at hb hh;rw[e,hh]at hb;simp only[jV.injEq,Obj.cells.injEq,and_true]at hb;exact ht hb.2.symm
theorem AW.set{l:List Ab}{cs:Array qB}(h:AW w B v l)(hb:Ag w P (qG cs t))(ht:t≠59)(u:qB):AW (w.setCell ⟨P,i,none⟩ u) B v l:=by
 refine⟨h.1,?_⟩;rcases h.2 with hn|⟨g,cap,cur,hv,hbg,hg,rest⟩
 ·exact .inl hn
 ·refine .inr ⟨g,cap,cur,hv,hbg,?_,rest⟩;have hh:Ag w g (qG cur 59):=hg;refine hh.other (fun e=>?_) u;unfold Ag at hb hh;rw[e,hh]at hb;simp only[jV.injEq,Obj.cells.injEq,and_true]at hb;exact ht hb.2.symm
structure Bz(w:World)(B:Nat)(vt vo:qB)(lt:List Ae)(lo:List Ab):Prop where
 t:Du w B vt lt
 o:AW w B vo lo
 tn:∀x∈lt,x.new B w
 on:∀x∈lo,x.new B w
 tc:∀x∈lt,x.own.n<=x.own.k/\x.own.k<=maxLen
 oc:∀x∈lo,x.jA.n<=x.jA.k/\x.jA.k<=maxLen
theorem Bz.below(h:Bz w B vt vo lt lo)(hb:Below w w w'):Bz w' B vt vo lt lo:=
 ⟨h.t.below hb,h.o.below hb,fun x hx=>(h.tn x hx).keeps (Dk.of_below hb).l,fun x hx=>(h.on x hx).keeps (Dk.of_below hb).l,h.tc,h.oc⟩
theorem Bz.base(h:Bz w B vt vo lt lo)(hB:B'<=B):Bz w B' vt vo lt lo:=⟨h.t.base hB,h.o.base hB,fun x hx=>(h.tn x hx).low hB,fun x hx=>(h.on x hx).low hB,h.tc,h.oc⟩
theorem Bz.set{cs:Array qB}(h:Bz w B vt vo lt lo)(hb:Ag w P (qG cs t))(ht:t=27∨t=50)(u:qB):Bz (w.setCell ⟨P,i,none⟩ u) B vt vo lt lo:=by
 have k:=Aq (i:=i) hb (by rcases ht with rfl|rfl<;>decide) u;exact⟨h.t.set hb (by rcases ht with rfl|rfl<;>decide) u,h.o.set hb (by rcases ht with rfl|rfl<;>decide) u,fun x hx=>(h.tn x hx).keeps k,fun x hx=>(h.on x hx).keeps k,h.tc,h.oc⟩
theorem Ae.new.at{t:Ae}(h:t.new B w):t.at w:=⟨h.1.1,h.2.1.1,h.2.2.1⟩
def Df(ta:Option Addr)(ca:Nat)(oa:Option Addr)(co:Nat)(lt:List Ae)(lo:List Ab):Av:=⟨ta,lt.length,ca,Be lt,oa,lo.length,co,Aa lo⟩
theorem Bz.at{ca co:Nat}{ta oa:Option Addr}(h:Bz w B (.slice ta lt.length ca) (.slice oa lo.length co) lt lo)(h1:lt.length<=1048576)(h2:lo.length<=1048576)(h3:∀x∈lo,x.data.size<=maxLen):(Df ta ca oa co lt lo).at w:=
 ⟨qj h1 (by unfold maxLen;omega),qj h2 (by unfold maxLen;omega),h.t.lies (fun x hx=>(h.tn x hx).at),h.o.lies (fun x hx=>⟨(h.on x hx).1.1,(h.on x hx).2.1.1,(h.on x hx).2.2.1.1,(h.on x hx).2.2.2.1,h3 x hx⟩)⟩
theorem Bz.addT{vt':qB}{x:Ae}(h:Bz w B vt vo lt lo)(ho:Du w' B vt' (lt++[x]))(hg:w.grownBy w' vt.ownBlock)(hx:x.new B w)(hc:x.own.n<=x.own.k/\x.own.k<=maxLen):Bz w' B vt' vo (lt++[x]) lo/\Dk w w':=by
 have kk:Dk w w':=⟨hg.size,fun k cs t hk h1 _=>hg.block k (jD.1 hk).1 (fun e=>by
  rcases h.t.2 with⟨hv,_⟩|⟨g,cap,cur,hv,_,hgg,_⟩
  ·rw[hv]at e;cases e
  ·rw[hv]at e;cases e;rw[hgg]at hk;simp only[jV.injEq,Obj.cells.injEq,and_true]at hk;exact h1 hk.2.symm)⟩
 refine⟨⟨ho,?_,fun y hy=>?_,fun y hy=>(h.on y hy).keeps kk.l,fun y hy=>?_,h.oc⟩,kk⟩
 ·refine⟨h.o.1,?_⟩;rcases h.o.2 with hn|⟨g,cap,cur,hv,hbg,hgg,rest⟩
  ·exact .inl hn
  ·refine .inr ⟨g,cap,cur,hv,hbg,?_,rest⟩;refine(hg.block g (jD.1 hgg).1 (fun e=>?_)).trans hgg;rcases h.t.2 with⟨hv,_⟩|⟨g',cap',cur',hv',_,hgg',_⟩
   ·rw[hv]at e;cases e
   ·rw[hv']at e;cases e;rw[hgg']at hgg;simp at hgg
 ·rcases jq.1 hy with hy|hy
  ·exact(h.tn y hy).keeps kk.l
  ·rw[kJ.1 hy];exact hx.keeps kk.l
 ·rcases jq.1 hy with hy|hy
  ·exact h.tc y hy
  ·rw[kJ.1 hy];exact hc
theorem Bz.addO{vo':qB}{x:Ab}(h:Bz w B vt vo lt lo)(ho:AW w' B vo' (lo++[x]))(hg:w.grownBy w' vo.ownBlock)(hx:x.new B w)(hc:x.jA.n<=x.jA.k/\x.jA.k<=maxLen):Bz w' B vt vo' lt (lo++[x])/\Dk w w':=by
 have kk:Dk w w':=⟨hg.size,fun k cs t hk _ h1=>hg.block k (jD.1 hk).1 (fun e=>by
  rcases h.o.2 with⟨hv,_⟩|⟨g,cap,cur,hv,_,hgg,_⟩
  ·rw[hv]at e;cases e
  ·rw[hv]at e;cases e;rw[hgg]at hk;simp only[jV.injEq,Obj.cells.injEq,and_true]at hk;exact h1 hk.2.symm)⟩
 refine⟨⟨?_,ho,fun y hy=>(h.tn y hy).keeps kk.l,fun y hy=>?_,h.tc,fun y hy=>?_⟩,kk⟩
 ·refine⟨h.t.1,?_⟩;rcases h.t.2 with hn|⟨g,cap,cur,hv,hbg,hgg,rest⟩
  ·exact .inl hn
  ·refine .inr ⟨g,cap,cur,hv,hbg,?_,rest⟩;refine(hg.block g (jD.1 hgg).1 (fun e=>?_)).trans hgg;rcases h.o.2 with⟨hv,_⟩|⟨g',cap',cur',hv',_,hgg',_⟩
   ·rw[hv]at e;cases e
   ·rw[hv']at e;cases e;rw[hgg']at hgg;simp at hgg
 ·rcases jq.1 hy with hy|hy
  ·exact(h.on y hy).keeps kk.l
  ·rw[kJ.1 hy];exact hx.keeps kk.l
 ·rcases jq.1 hy with hy|hy
  ·exact h.oc y hy
  ·rw[kJ.1 hy];exact hc
open _root_.List renaming not_mem_nil→kM
open Go.World renaming ownsRow→qq
open _root_.Nat renaming not_lt_zero→xM
variable {w wr w':World}{k:Av}{vt vo:Value}{lt:List Ae}{lo:List Ab}{u:Ae}{a:Option Addr}{c:Nat}
theorem Ih{F:Func}(tmps:Array Value)(W:World)(P n:Nat)(x y:Value)(hF:F.results=#[.cell n 27])(h:Ag W P (qG #[x,y] 27))(h2:tmps[n]? =some (.pointer P)):
 (results F tmps).run prog W= .ok (.agg #[x,y]) W:=by
 obtain⟨z0,z1⟩:=h.two;simp[results,hF,go_sem,h2,z0,z1]
structure KU(w:World)(k:Av)(wr:World)(vt vo:Value)(lt:List Ae)(lo:List Ab):Prop where
 st:Bz wr w vt vo lt lo
 st1:∀i,i<lt.length->(k.T i).same (Be lt i)
 so1:∀i,i<lo.length->(k.O i).same (Aa lo i)
 a:Ag wr w (qG #[qV k.ta k.tn k.tk,qV k.oa k.on k.ok] 27)
 r:Ag wr (w.heap.size+1) (qG #[qV none 0 0,qV none 0 0] 27)
 o:Ag wr (w.heap.size+1+1) (qG #[vt,vo] 27)
 be:qN w w wr
theorem KU.below{wr':World}(h:KU w k wr vt vo lt lo)(hb:qN wr wr wr'):KU w k wr' vt vo lt lo:=
 ⟨h.st.below hb,h.st1,h.so1,h.a.below hb,h.r.below hb,h.o.below hb,h.be.trans (hb.mono h.be.size)⟩
theorem Ov:(∀i,i<lt.length->Be (lt++[u]) i=Be lt i)/\Be (lt++[u]) lt.length=u:=⟨fun i hi=>by simp[Be,List.getElem?_append,hi],by simp[Be]⟩
theorem PM{u:Ab}:(∀i,i<lo.length->Aa (lo++[u]) i=Aa lo i)/\Aa (lo++[u]) lo.length=u:=⟨fun i hi=>by simp[Aa,List.getElem?_append,hi],by simp[Aa]⟩
theorem KU.addT(h:KU w k wr vt vo lt lo)(ho:Du w' w (qV a (lt.length+1) c) (lt++[u]))(hg:wr.grownBy w' vt.ownBlock)(hu:u.new w wr)(hs:(k.T lt.length).same u)(hc:u.own.n<=u.own.k/\u.own.k<=maxLen):
 Ag w' (w.heap.size+1+1) (qG #[vt,vo] 27)/\KU w k (w'.setCell ⟨w.heap.size+1+1,0,none⟩ (qV a (lt.length+1) c)) (qV a (lt.length+1) c) vo (lt++[u]) lo:=by
 obtain⟨k1,kk⟩:=h.st.addT ho hg hu hc;have o1:Ag w' (w.heap.size+1+1) (qG #[vt,vo] 27):=kk.blk h.o qX qX;have b1:qN w wr w':=below_grown hg h.be.size (fun j e=>(qq.lt h.st.t j e).1);refine⟨o1,k1.set o1 (.inl rfl) _,fun i hi=>?_,h.so1,(kk.blk h.a qX qX).other qQ _,(kk.blk h.r qX qX).other qQ _,o1.jB (i:=0) _,(h.be.trans b1).setCell qJ _⟩;by_cases e:i<lt.length
 ·rw[Ov.1 i e];exact h.st1 i e
 ·have:i=lt.length:=by simp at hi;omega
  rw[this,Ov.2];exact hs
theorem KU.addO{u:Ab}(h:KU w k wr vt vo lt lo)(ho:AW w' w (qV a (lo.length+1) c) (lo++[u]))(hg:wr.grownBy w' vo.ownBlock)(hu:u.new w wr)(hs:(k.O lo.length).same u)(hc:u.jA.n<=u.jA.k/\u.jA.k<=maxLen):
 Ag w' (w.heap.size+1+1) (qG #[vt,vo] 27)/\KU w k (w'.setCell ⟨w.heap.size+1+1,1,none⟩ (qV a (lo.length+1) c)) vt (qV a (lo.length+1) c) lt (lo++[u]):=by
 obtain⟨k1,kk⟩:=h.st.addO ho hg hu hc;have o1:Ag w' (w.heap.size+1+1) (qG #[vt,vo] 27):=kk.blk h.o qX qX;have b1:qN w wr w':=below_grown hg h.be.size (fun j e=>(qq.lt h.st.o j e).1);refine⟨o1,k1.set o1 (.inl rfl) _,h.st1,fun i hi=>?_,(kk.blk h.a qX qX).other qQ _,(kk.blk h.r qX qX).other qQ _,o1.jB (i:=1) _,(h.be.trans b1).setCell qJ _⟩;by_cases e:i<lo.length
 ·rw[PM.1 i e];exact h.so1 i e
 ·have:i=lo.length:=by simp at hi;omega
  rw[this,PM.2];exact hs
theorem PH(k:Av)(w:World)(hk:k.at w)(hs:k.small):
 Calls prog 15 #[k.val] w fun e w'=>∃(lt:List Ae) (lo:List Ab) (ta oa:Option Addr) (ca co:Nat),e= .returned (.agg #[qV ta lt.length ca,qV oa lo.length co])/\Bz w' w (qV ta lt.length ca) (qV oa lo.length co) lt lo/\k.same (Df ta ca oa co lt lo)/\qN w w w':=by
 have HT:=qC hk.2.2.1;have HO:=qC hk.2.2.2;have SMALL:=qC hs;have n2:No (qG #[qV none 0 0,qV none 0 0] 27):=⟨⟩;have n3:No (qG #[qV k.ta k.tn k.tk,qV k.oa k.on k.ok] 27):=⟨⟩;have n4:Nw (((w.alloc n3).alloc n2).alloc n2):=⟨⟩;have b0:qN w w n4:=((Bg w _).alloc sI _).alloc sO _;have S0:Hid (KU w k n4 (qV none 0 0) (qV none 0 0) [] []):=qC ⟨⟨Du.nil _ _,AW.nil _ _,fun x hx=>absurd hx kM,fun x hx=>absurd hx kM,fun x hx=>absurd hx kM,fun x hx=>absurd hx kM⟩,fun i hi=>absurd hi (xM i),fun i hi=>absurd hi (xM i),((Ag.new w n3).alloc _).alloc _,(by have:=(Ag.new (w.alloc n3) n2).alloc n2;simpa using this),(by have:=Ag.new ((w.alloc n3).alloc n2) n2;simpa using this),b0⟩;clear hk hs b0;unfold Av.val;go_enter func15,ntmps15
 go_wp2;go_loopw [4] (fun i wr=>∃(lt:List Ae) (ta:Option Addr) (ca:Nat),lt.length<=k.tn/\i= iT qH lt.length/\KU w k wr (qV ta lt.length ca) (qV none 0 0) lt []) (fun i _=>k.tn-(intOf i).toNat)
 case atStart=>exact⟨[],none,0,qy _,rfl,S0⟩
 case round=>
  clear S0;obtain⟨lt,ta,ca,hl,rfl,st⟩:=hrel;have S1:=qC st;clear st;by_cases hlt:lt.length<k.tn
  ·have i1:(lt.length:Int)<(k.tn:Int):=qQ;have i0:(0:Int)<=(lt.length:Int):=qQ;obtain⟨b,off,ea,hbl,hc⟩:=HT.out qQ;have bd:qN wr wr wr.drew:=(Below.refl _ wr).drew;have SD:=qC (S1.out.below bd);have CC:FA wr.drew b (off+lt.length*7) (k.T lt.length):=(hc lt.length hlt).1.below hbl ((Below.refl _ w).trans (SD.out.be.mono nr));have q0:wr.drew.cell? ⟨b,off+lt.length*7,none⟩=some (iT qH (k.T lt.length).id):=CC.c0;have q1:wr.drew.cell? ⟨b,off+lt.length*7+1,none⟩=some (iT qH (k.T lt.length).b1):=CC.c1;have q2:wr.drew.cell? ⟨b,off+lt.length*7+2,none⟩=some (qV (k.T lt.length).c1.a (k.T lt.length).c1.n (k.T lt.length).c1.k):=CC.c2;have q3:wr.drew.cell? ⟨b,off+lt.length*7+3,none⟩=some (iT qH (k.T lt.length).b2):=CC.c3;have q4:wr.drew.cell? ⟨b,off+lt.length*7+4,none⟩=some (qV (k.T lt.length).c2.a (k.T lt.length).c2.n (k.T lt.length).c2.k):=CC.c4;have q5:wr.drew.cell? ⟨b,off+lt.length*7+5,none⟩=some (qV (k.T lt.length).own.a (k.T lt.length).own.n (k.T lt.length).own.k):=CC.c5;have q6:wr.drew.cell? ⟨b,off+lt.length*7+6,none⟩=some (iT qH (k.T lt.length).made):=CC.c6;have hbw:b<wr.heap.size:=qv hbl S1.out.be.size;obtain⟨a0,a1⟩:=S1.out.a.two;obtain⟨x0,x1⟩:=SD.out.a.two;obtain⟨y0,y1⟩:=SD.out.o.two;have CP:Hid (Calls prog 41 #[.agg #[iT qH (k.T lt.length).id,iT qH (k.T lt.length).b1,qV (k.T lt.length).c1.a (k.T lt.length).c1.n (k.T lt.length).c1.k,iT qH (k.T lt.length).b2,qV (k.T lt.length).c2.a (k.T lt.length).c2.n (k.T lt.length).c2.k,qV (k.T lt.length).own.a (k.T lt.length).own.n (k.T lt.length).own.k,iT qH (k.T lt.length).made]] wr.drew fun e w'=>∃v,e= .returned v/\(∃u:Ae,v= .agg u/\(k.T lt.length).same u/\u.new wr.drew.heap.size w'/\(u.own.n<=u.own.k/\u.own.k<=maxLen)/\qN wr.drew.heap.size wr.drew w')):=qC ((Ml (k.T lt.length) wr.drew ((hc lt.length hlt).2.below SD.out.be) (SMALL.out.1.2 lt.length hlt)).mono fun _ _ ⟨u,e1,h1,h2,h3,h4⟩=>⟨_,e1,u,rfl,h1,h2,h3,h4⟩);have EG:Hid (∀args w,(callFunc 41 args).run prog w= .ok (.enter 41 args) w):=qC (enters_of func41 kR rfl);have lm:lt.length<=1048576:=(by have:=SMALL.out.1.1;omega);rw[ea]at a0 x0;clear hc CC ea bd;have sz0:=S1.out.be.size;go_wp2_with fail
   go_region_law(first
    |(refine EJ qK 41 _ _ qK EG _ qK _ CP ?_;rintro v w5 ⟨u,rfl,su,nu,cu,b5⟩;have CU:=qC cu;have S5:=qC (SD.out.below b5);have S5a:=qC ((SD.out.below b5).below (Bg w5 (qG u 53)));have N5:=qC ((nu.low SD.out.be.size).keeps (Dk.of_below (Bg w5 (qG u 53))).l);have SU:=qC su;have ONE:Hid (Bl (w5.alloc (qG u 53)) (some ⟨w5,0,none⟩) 1 (Cn [u])):=qC (Du.one w5 u);have s5:w.heap.size<=(w5.alloc (qG u 53)).heap.size:=S5a.out.be.size;obtain⟨m0,m1⟩:=S5.out.o.two;obtain⟨n0,n1⟩:=S5a.out.o.two;clear su nu b5 cu)
    |(refine Jj qK _ _ qK w (qV ta lt.length ca) lt qK S5a.out.st.t _ _ u qK ONE lm s5 ?_;intro a7 c7 w7 o7 g7;have AD:=S5a.out.addT o7 g7 N5 SU CU.out;have S7:=qC AD.2;obtain⟨z0,z1⟩:=AD.1.two;have zf:=AD.1.jC;clear AD o7 g7))
   all_goals(
    clear m0 m1 n0 n1 x0 x1 y0 y1 q0 q1 q2 q3 q4 q5 q6 a0 a1;go_wp2;go_roundw;case rel=>exact⟨lt++[u],a7,c7,by simp;omega,by first|go_num|(congr 1;simp),by rw[show(lt++[u]).length=lt.length+1 from by simp];exact S7.out⟩
    case measure=>simp[intOf];omega)
  ·have i1:¬(lt.length:Int)<(k.tn:Int):=qQ;have ET:Hid (lt.length=k.tn):=qC qQ;obtain⟨a0,a1⟩:=S1.out.a.two;have ST:=S1;clear S1;go_wp2;clear a0 a1 i1 hlt hl;go_loopw [5] (fun i wr=>∃(lo:List Ab) (oa:Option Addr) (co:Nat),lo.length<=k.on/\i= iT qH lo.length/\KU w k wr (qV ta lt.length ca) (qV oa lo.length co) lt lo) (fun i _=>k.on-(intOf i).toNat)
   case atStart=>exact⟨[],none,0,qy _,rfl,ST⟩
   case round=>
    clear ST;obtain⟨lo,oa,co,hl,rfl,st⟩:=hrel;have S1:=qC st;clear st;by_cases hlt:lo.length<k.on
    ·have i1:(lo.length:Int)<(k.on:Int):=qQ;have i0:(0:Int)<=(lo.length:Int):=qQ;obtain⟨b,off,ea,hbl,hc⟩:=HO.out qQ;have bd:qN wr wr wr.drew:=(Below.refl _ wr).drew;have SD:=qC (S1.out.below bd);have CC:Di wr.drew b (off+lo.length*10) (k.O lo.length):=(hc lo.length hlt).1.below hbl ((Below.refl _ w).trans (SD.out.be.mono nr));have q0:wr.drew.cell? ⟨b,off+lo.length*10,none⟩=some (iT qH (k.O lo.length).id):=CC.c0;have q1:wr.drew.cell? ⟨b,off+lo.length*10+1,none⟩=some (iT qH (k.O lo.length).kind):=CC.c1;have q2:wr.drew.cell? ⟨b,off+lo.length*10+2,none⟩=some (iT qH (k.O lo.length).up):=CC.c2;have q3:wr.drew.cell? ⟨b,off+lo.length*10+3,none⟩=some (iT qH (k.O lo.length).b1):=CC.c3;have q4:wr.drew.cell? ⟨b,off+lo.length*10+4,none⟩=some (qV (k.O lo.length).c1.a (k.O lo.length).c1.n (k.O lo.length).c1.k):=CC.c4;have q5:wr.drew.cell? ⟨b,off+lo.length*10+5,none⟩=some (.string (k.O lo.length).data):=CC.c5;have q6:wr.drew.cell? ⟨b,off+lo.length*10+6,none⟩=some (qV (k.O lo.length).jA.a (k.O lo.length).jA.n (k.O lo.length).jA.k):=CC.c6;have q7:wr.drew.cell? ⟨b,off+lo.length*10+7,none⟩=some (qV (k.O lo.length).own.a (k.O lo.length).own.n (k.O lo.length).own.k):=CC.c7;have q8:wr.drew.cell? ⟨b,off+lo.length*10+8,none⟩=some (iT qH (k.O lo.length).b2):=CC.c8;have q9:wr.drew.cell? ⟨b,off+lo.length*10+9,none⟩=some (qV (k.O lo.length).c2.a (k.O lo.length).c2.n (k.O lo.length).c2.k):=CC.c9;have hbw:b<wr.heap.size:=qv hbl S1.out.be.size;obtain⟨a0,a1⟩:=S1.out.a.two;obtain⟨x0,x1⟩:=SD.out.a.two;obtain⟨y0,y1⟩:=SD.out.o.two;have CP:Hid (Calls prog 42 #[.agg #[iT qH (k.O lo.length).id,iT qH (k.O lo.length).kind,iT qH (k.O lo.length).up,iT qH (k.O lo.length).b1,qV (k.O lo.length).c1.a (k.O lo.length).c1.n (k.O lo.length).c1.k,.string (k.O lo.length).data,qV (k.O lo.length).jA.a (k.O lo.length).jA.n (k.O lo.length).jA.k,qV (k.O lo.length).own.a (k.O lo.length).own.n (k.O lo.length).own.k,iT qH (k.O lo.length).b2,qV (k.O lo.length).c2.a (k.O lo.length).c2.n (k.O lo.length).c2.k]] wr.drew fun e w'=>∃v,e= .returned v/\(∃u:Ab,v= .agg u/\(k.O lo.length).same u/\u.new wr.drew.heap.size w'/\(u.jA.n<=u.jA.k/\u.jA.k<=maxLen)/\qN wr.drew.heap.size wr.drew w')):=qC ((My (k.O lo.length) wr.drew ((hc lo.length hlt).2.below SD.out.be) (SMALL.out.2.2 lo.length hlt)).mono fun _ _ ⟨u,e1,h1,h2,h3,h4⟩=>⟨_,e1,u,rfl,h1,h2,h3,h4⟩);have EG:Hid (∀args w,(callFunc 42 args).run prog w= .ok (.enter 42 args) w):=qC (enters_of func42 kR rfl);have lm:lo.length<=1048576:=(by have:=SMALL.out.2.1;omega);rw[ea]at a1 x1;clear hc CC ea bd;have sz0:=S1.out.be.size;go_wp2_with fail
     go_region_law(first
      |(refine EJ qK 42 _ _ qK EG _ qK _ CP ?_;rintro v w5 ⟨u,rfl,su,nu,cu,b5⟩;have CU:=qC cu;have S5:=qC (SD.out.below b5);have S5a:=qC ((SD.out.below b5).below (Bg w5 (qG u 59)));have N5:=qC ((nu.low SD.out.be.size).keeps (Dk.of_below (Bg w5 (qG u 59))).l);have SU:=qC su;have ONE:Hid (Bl (w5.alloc (qG u 59)) (some ⟨w5,0,none⟩) 1 (Ax [u])):=qC (AW.one w5 u);have s5:w.heap.size<=(w5.alloc (qG u 59)).heap.size:=S5a.out.be.size;obtain⟨m0,m1⟩:=S5.out.o.two;obtain⟨n0,n1⟩:=S5a.out.o.two;clear su nu b5 cu)
      |(refine GH qK _ _ qK w (qV oa lo.length co) lo qK S5a.out.st.o _ _ u qK ONE lm s5 ?_;intro a7 c7 w7 o7 g7;have AD:=S5a.out.addO o7 g7 N5 SU CU.out;have S7:=qC AD.2;obtain⟨z0,z1⟩:=AD.1.two;have zf:=AD.1.jC;clear AD o7 g7))
     all_goals(
      clear m0 m1 n0 n1 x0 x1 y0 y1 q0 q1 q2 q3 q4 q5 q6 q7 q8 q9 a0 a1;go_wp2;go_roundw;case rel=>exact⟨lo++[u],a7,c7,by simp;omega,by first|go_num|(congr 1;simp),by rw[show(lo++[u]).length=lo.length+1 from by simp];exact S7.out⟩
      case measure=>simp[intOf];omega)
    ·have el:lo.length=k.on:=qQ;have i1:¬(lo.length:Int)<(k.on:Int):=qQ;have EL:=qC el;obtain⟨a0,a1⟩:=S1.out.a.two;obtain⟨y0,y1⟩:=S1.out.o.two;obtain⟨r0,r1⟩:=S1.out.r.two;have rf:=S1.out.r.jC;clear el;go_wp2;refine bodyPost_ret (Ih _ _ (w.heap.size+1) 2 _ _ Tryz.results15 ((S1.out.r.jB (i:=0) _).jB (i:=1) _) rfl) rfl ⟨lt,lo,ta,oa,ca,co,rfl,(S1.out.st.set S1.out.r (.inl rfl) _).set (S1.out.r.jB (i:=0) _) (.inl rfl) _,⟨ET,fun j hj=>S1.out.st1 j (by rw[ET.out];exact hj),EL,fun j hj=>S1.out.so1 j (by rw[EL.out];exact hj)⟩,?_⟩;exact(S1.out.be.setCell qJ _).setCell qJ _
open _root_.List renaming mem_flatten→xH,append_assoc→kN
variable {B M P:Nat}{w w':World}{c:As}{vt vo:Value}{lt:List Ae}{lo:List Ab}
def As.bs(c:As):List Nat:=if 0<c.n then(match c.a with|some p=>[p.block]|none=>[])else[]
def AJ.bs(c:AJ):List Nat:=if 0<c.n then(match c.a with|some p=>[p.block]|none=>[])else[]
def AE.bs(c:AE):List Nat:=if 0<c.n then(match c.a with|some p=>[p.block]|none=>[])else[]
theorem As.new.bs(h:c.new B w):c.bs.Nodup/\∀b∈c.bs,B<=b/\b<w.heap.size:=by
 unfold As.bs;split
 ·rename_i h0;obtain⟨b,m,F,e,h1,_,h3⟩:=h.2 h0;rw[e];exact⟨by simp,fun x hx=>by rw[kJ.1 hx];exact⟨h1,h3.lt⟩⟩
 ·exact⟨by simp,fun x hx=>by cases hx⟩
theorem AJ.new.bs{c:AJ}(h:c.new B w):c.bs.Nodup/\∀b∈c.bs,B<=b/\b<w.heap.size:=by
 unfold AJ.bs;split
 ·rename_i h0;obtain⟨b,m,F,e,h1,_,h3⟩:=h.2 h0;rw[e];exact⟨by simp,fun x hx=>by rw[kJ.1 hx];exact⟨h1,h3.lt⟩⟩
 ·exact⟨by simp,fun x hx=>by cases hx⟩
theorem AE.new.bs{c:AE}(h:c.new B w):c.bs.Nodup/\∀b∈c.bs,B<=b/\b<w.heap.size:=by
 unfold AE.bs;split
 ·rename_i h0;obtain⟨b,m,F,e,h1,_,h3⟩:=h.2 h0;rw[e];exact⟨by simp,fun x hx=>by rw[kJ.1 hx];exact⟨h1,h3.lt⟩⟩
 ·exact⟨by simp,fun x hx=>by cases hx⟩
theorem Dt{l1 l2:List Nat}(h1:l1.Nodup)(h2:l2.Nodup)(a:∀x∈l1,x<M)(b:∀x∈l2,M<=x):(l1++l2).Nodup:=by
 rw[List.nodup_append];exact⟨h1,h2,fun x hx y hy e=>by have:=a x hx;have:=b y hy;omega⟩
def Ae.cb(t:Ae):List Nat:=t.c1.bs++t.c2.bs
def Ab.cb(t:Ab):List Nat:=t.c1.bs++t.c2.bs
theorem As.new.past(h:c.new B w)(hg:w.grownBy w' (some P))(hP:P<B):c.new B w':=h.of hg.size (fun b e h0=>by
 obtain⟨b',m,F,e',h1,_,hr⟩:=h.2 h0;rw[e]at e';cases e';exact hg.block b hr.lt (fun e=>by have:=jV.inj e;omega))
theorem AJ.new.past{c:AJ}(h:c.new B w)(hg:w.grownBy w' (some P))(hP:P<B):c.new B w':=h.of hg.size (fun b e h0=>by
 obtain⟨b',m,F,e',h1,_,hr⟩:=h.2 h0;rw[e]at e';cases e';exact hg.block b hr.lt (fun e=>by have:=jV.inj e;omega))
theorem AE.new.past{c:AE}(h:c.new B w)(hg:w.grownBy w' (some P))(hP:P<B):c.new B w':=h.of hg.size (fun b e h0=>by
 obtain⟨b',m,F,e',h1,_,hr⟩:=h.2 h0;rw[e]at e';cases e';exact hg.block b hr.lt (fun e=>by have:=jV.inj e;omega))
theorem Bz.past(h:Bz w B vt vo lt lo)(hg:w.grownBy w' (some P))(hP:P<B):Bz w' B vt vo lt lo:=by
 have ne:∀{ty sz n:Nat}{v:Value}{cs:List Value},w.ownsRow B ty sz v n cs->v.ownBlock=none∨v.ownBlock≠some P:=fun{ty sz n v cs} ho=> .inr (fun e=>by have:=(qq.lt ho P e).1;omega);exact⟨qq.kept h.t hg (ne h.t),qq.kept h.o hg (ne h.o),fun x hx=>⟨(h.tn x hx).1.past hg hP,(h.tn x hx).2.1.past hg hP,(h.tn x hx).2.2.past hg hP⟩,fun x hx=>⟨(h.on x hx).1.past hg hP,(h.on x hx).2.1.past hg hP,(h.on x hx).2.2.1.past hg hP,(h.on x hx).2.2.2.past hg hP⟩,h.tc,h.oc⟩
structure Apart(lt:List Ae)(lo:List Ab):Prop where
 c:((lt.map Ae.cb).flatten++(lo.map Ab.cb).flatten).Nodup
 i:((lt.map fun x=>x.own.bs).flatten++(lo.map fun x=>x.own.bs).flatten).Nodup
 s:((lo.map fun x=>x.jA.bs).flatten).Nodup
theorem Apart.nil:Apart [] []:=⟨by simp,by simp,by simp⟩
theorem Bz.low3(h:Bz w B vt vo lt lo):(∀b∈(lt.map Ae.cb).flatten++(lo.map Ab.cb).flatten,b<w.heap.size)/\(∀b∈(lt.map fun x=>x.own.bs).flatten++(lo.map fun x=>x.own.bs).flatten,b<w.heap.size)/\(∀b∈(lo.map fun x=>x.jA.bs).flatten,b<w.heap.size):=by
 refine⟨fun b hb=>?_,fun b hb=>?_,fun b hb=>?_⟩
 ·rcases jq.1 hb with hb|hb
  ·obtain⟨l,hl,hb⟩:=xH.1 hb;obtain⟨x,hx,rfl⟩:=jy.1 hl;rcases jq.1 hb with hb|hb
   ·exact((h.tn x hx).1.bs.2 b hb).2
   ·exact((h.tn x hx).2.1.bs.2 b hb).2
  ·obtain⟨l,hl,hb⟩:=xH.1 hb;obtain⟨x,hx,rfl⟩:=jy.1 hl;rcases jq.1 hb with hb|hb
   ·exact((h.on x hx).1.bs.2 b hb).2
   ·exact((h.on x hx).2.2.2.bs.2 b hb).2
 ·rcases jq.1 hb with hb|hb
  ·obtain⟨l,hl,hb⟩:=xH.1 hb;obtain⟨x,hx,rfl⟩:=jy.1 hl;exact((h.tn x hx).2.2.bs.2 b hb).2
  ·obtain⟨l,hl,hb⟩:=xH.1 hb;obtain⟨x,hx,rfl⟩:=jy.1 hl;exact((h.on x hx).2.2.1.bs.2 b hb).2
 ·obtain⟨l,hl,hb⟩:=xH.1 hb;obtain⟨x,hx,rfl⟩:=jy.1 hl;exact((h.on x hx).2.1.bs.2 b hb).2
theorem Apart.addT(h:Apart lt [])(hk:Bz w B vt vo lt []){x:Ae}(hx:x.new M w')(hM:w.heap.size<=M)(hn:x.cb.Nodup):Apart (lt++[x]) []:=by
 obtain⟨k1,k2,_⟩:=hk.low3;refine⟨?_,?_,by simp⟩
 ·have:=Dt (M:=w.heap.size) (l2:=x.cb) (by simpa using h.c) hn (by simpa using k1) (fun b hb=>by
   rcases jq.1 hb with hb|hb
   ·exact qj hM (hx.1.bs.2 b hb).1
   ·exact qj hM (hx.2.1.bs.2 b hb).1)
  simpa using this
 ·have:=Dt (M:=w.heap.size) (l2:=x.own.bs) (by simpa using h.i) hx.2.2.bs.1 (by simpa using k2) (fun b hb=>qj hM (hx.2.2.bs.2 b hb).1);simpa using this
theorem Apart.addO(h:Apart lt lo)(hk:Bz w B vt vo lt lo){x:Ab}(hx:x.new M w')(hM:w.heap.size<=M)(hn:x.cb.Nodup):Apart lt (lo++[x]):=by
 obtain⟨k1,k2,k3⟩:=hk.low3;refine⟨?_,?_,?_⟩
 ·have:=Dt (M:=w.heap.size) (l2:=x.cb) h.c hn k1 (fun b hb=>by
   rcases jq.1 hb with hb|hb
   ·exact qj hM (hx.1.bs.2 b hb).1
   ·exact qj hM (hx.2.2.2.bs.2 b hb).1)
  simpa[kN]using this
 ·have:=Dt (M:=w.heap.size) (l2:=x.own.bs) h.i hx.2.2.1.bs.1 k2 (fun b hb=>qj hM (hx.2.2.1.bs.2 b hb).1);simpa[kN]using this
 ·have:=Dt (M:=w.heap.size) (l2:=x.jA.bs) h.s hx.2.1.bs.1 k3 (fun b hb=>qj hM (hx.2.1.bs.2 b hb).1);simpa using this
end Go.Proofs.YtdaccbddcjlkpaaGreatDoor
