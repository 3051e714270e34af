import Derived.Test.YtefoofaocbjdoaaGreatDoorZ4s
set_option maxRecDepth 100000
set_option maxHeartbeats 8000000
namespace Go.Proofs.YtefoofaocbjdoaaGreatDoor
open Go Go.RowKit Go.Deep Go.Maps Go.BigFrame Go.Shelf Go.Proofs.Tryz
variable {w:World}{B:Nat}
theorem VH(tmps:Array Value)(W:World)(P:Nat)(x0 x1 x2 x3 x4 x5 x6:Value)(h:Ah W P (.cells #[x0,x1,x2,x3,x4,x5,x6] 57))(h2:tmps[2]? =some (.pointer P)):
 (results Tryz.f87 tmps).run prog W= .ok (.agg #[x0,x1,x2,x3,x4,x5,x6]) W:=by
 obtain⟨z0,z1,z2,z3,z4,z5,z6⟩:=h.seven;simp[results,Tryz.results87,go_sem,h2,z0,z1,z2,z3,z4,z5,z6]
theorem Dm{e size n c:Nat}{a:Option Addr}{xs:List Value}(h:w.ownsRow B e size (.slice a n c) n xs):n<=c/\c<=maxLen:=by
 rcases h.2 with⟨hv,hn⟩|⟨g,cap,cur,hv,_,_,h1,h2,_⟩
 ·simp only[Value.slice.injEq]at hv;exact⟨by omega,by rw[hv.2.2];exact Nat.zero_le _⟩
 ·simp only[Value.slice.injEq]at hv;rw[hv.2.2];exact⟨h1,h2⟩
theorem Gm{ops:Array Oper}{o:Oper}{a:Act}{w:World}{K:Act->World->Prop}{Q:Exit->Act->World->Prop}{E:Prop}(hgd:o.guard=none)(s x:Operand)
 (ho:o.op= .call {callee:= .builtin .append,args:=#[s,x],argTypes:=#[55,55]})
 (B:Nat)(g:Nat)(hs:a.eval s= .slice g 0 0)(hown:Az w B (.slice g 0 0) [])(ad:Option Addr)(m c:Nat)(f:Nat->Int)(hx:a.eval x= .slice ad m c)(hc:Bj w ad m f)
 (hm:m<=1048576)(hB:B<=w.heap.size)
 (h:∀a' c' w',AI.new B w' ⟨a',m,c',f⟩->(m<=c'/\c'<=maxLen)->w.grownBy w' (some g)->K (a.put o.dst (.slice a' m c')) w'):
 if Region.wanted o (yielded ops a.tmps)=true then Oper.wp prog o a w K Q else E:=by
 have hw:Region.wanted o (yielded ops a.tmps)=true:=by simp[Region.wanted,hgd]
 rw[if_pos hw];have L0:=hc.intL;have el:((List.range m).map f).length=m:=by simp
 have L:Bp w ad m (((List.range m).map f).map (Value.int .i64)):=by unfold Dw at L0;rw[el]at L0;exact L0
 refine Ds underlying55 Tryz.info2 rfl (by omega) w s x ho B _ 0 [] hs hown ad m c (((List.range m).map f).map (Value.int .i64)) hx (by simp) L (fun u hu=>by obtain⟨y,_,rfl⟩:=List.mem_map.1 hu;rfl) (by omega) (by omega) hB fun a' c' w' h2 h3 _=>?_;rw[Nat.zero_add,List.nil_append]at h2;rw[Nat.zero_add];refine h a' c' w' ?_ (Dm h2) h3;have ho':Az w' B (.slice a' ((List.range m).map f).length c') ((List.range m).map f):=by unfold Az;rw[el];exact h2
 have hi:Bj w' a' m f:=fun h0=>by
  obtain⟨b,off,e,hlt,hcc⟩:=(Az.lies ho').ints (by rw[el];exact h0);refine⟨b,off,e,hlt,fun i hi=>?_⟩;have:=hcc i (by rw[el];exact hi);rw[this];simp[AX,hi]
 exact⟨⟨by unfold maxLen;simp only;omega,hi⟩,fun h0=>by have:=Dt h2 h0;simpa using this⟩
theorem Nk{b m g:Nat}{F:Nat->Value}(hr:w.rowIs b 117 m F)(ho:Az w B (.slice g 0 0) []):b≠g:=fun e=>by
 obtain⟨cur,hb⟩:=LV ho (g:=g) rfl;obtain⟨c,h1,_⟩:=hr;rw[e,hb]at h1;simp at h1
theorem Au.new.over{w':World}{c:Au}(h:c.new B w)(hs:w.heap.size<=w'.heap.size)(hb:∀b m F,w.rowIs b 117 m F->w'.heap[b]? =w.heap[b]?):c.new B w':=h.of hs (fun b e hn=>by
 obtain⟨b',m,F,e',_,_,hr⟩:=h.2 hn;rw[e]at e';cases e';exact hb b m F hr)
theorem Lm(t:Ae)(w:World)(ht:t.at w)(hs:t.small):
 Calls prog 87 #[t.val] w fun e w'=>∃u:Ae,e= .returned u.val/\t.same u/\u.new w w'/\(u.own.n<=u.own.k/\u.own.k<=maxLen)/\Below w w w':=by
 have n4:No (.cells #[.int .i64 0,.int .i64 0,.slice none 0 0,.int .i64 0,.slice none 0 0,.slice none 0 0,.int .i64 0] 57):=⟨⟩;have b0:Below w w ((w.alloc t.blk).alloc n4):=(Be w _).alloc (by simp) _;have A0:=(Ah.new w t.blk).alloc n4;have R0:Ah ((w.alloc t.blk).alloc n4) (w.heap.size+1) n4:=by
  have:=Ah.new (w.alloc t.blk) n4;simpa using this
 have T0:=hid (ht.below b0);unfold Ae.blk at b0 A0 R0 T0;unfold Ae.val;obtain⟨x0,x1,x2,x3,x4,x5,x6⟩:=A0.seven;obtain⟨m1,m2,m3⟩:=hs;clear ht;unfold AI.val at *;go_enter func87,ntmps87
 go_wp2;have n5:No (.cells #[t.id,t.b1,t.c1.val,t.b2,t.c2.val,t.own,t.made] 57):=⟨⟩;generalize hV:((w.alloc n5).alloc n4)=V at *;have B0:=hid b0;have A0':Hid (∀W,Below V V W->Ah W w n5):=hid (fun W h=>A0.below h);have R0':=hid R0;have PA:Hid (∀W,Below V V W->Calls prog 92 #[.agg #[t.b1,t.c1.val]] W fun e w'=>∃d:Au,e= .returned (.agg #[t.b1,d])/\t.c1.same d/\d.new W w'/\Below W W w'):=hid (fun W hW=>Cw t.b1 t.c1 W (T0.out.below hW).1 m1);have PB:Hid (∀W,Below V V W->Calls prog 92 #[.agg #[t.b2,t.c2.val]] W fun e w'=>∃d:Au,e= .returned (.agg #[t.b2,d])/\t.c2.same d/\d.new W w'/\Below W W w'):=hid (fun W hW=>Cw t.b2 t.c2 W (T0.out.below hW).2.1 m2);have TO:Hid (∀W,Below V V W->Bj W t.own.a t.own.n t.own.h):=hid (fun W hW=>(T0.out.below hW).2.2.2);clear hV b0 A0 R0;have V0:Hid (Below V V V.drew):=hid (Below.refl _ V).drew;have V0a:Hid (Below V V ((V.alloc (.cells #[] 2)).drew)):=hid (Ay (Be V _));have EO0:Hid (Az ((V.alloc (.cells #[] 2)).drew) w (.slice (V) 0 0) []):=hid (Az.made V w B0.out.size);have Jw:w.heap.size<V.heap.size:=(A0' V (Below.refl _ V)).lt;have nx0:¬w.heap.size=V.heap.size:=by omega
 obtain⟨y0,y1,y2,y3,y4,y5,y6⟩:=(A0' _ V0a).seven;have ne1:¬w.heap.size=w.heap.size+1:=by omega
 have ne2:¬w.heap.size+1=w.heap.size:=by omega
 have mk1:True:=trivial;have mk2:True:=trivial;go_region_held3(fun w'=>w'.cell? ⟨w,0,none⟩=some (.int .i64 t.id)/\w'.cell? ⟨w,1,none⟩=some (.int .i64 t.b1)/\w'.cell? ⟨w,2,none⟩=some t.c1.val/\w'.cell? ⟨w,3,none⟩=some (.int .i64 t.b2)/\w'.cell? ⟨w,4,none⟩=some t.c2.val/\w'.cell? ⟨w,5,none⟩=some (.slice t.own.a t.own.n t.own.k)/\w'.cell? ⟨w,6,none⟩=some (.int .i64 t.made)) (first|go_keep|(simp only[*,and_self]))
  (first
    |(go_at_call 92;have mq:=mk1;clear mk1;first|(refine(PA _ V0).mono ?_;rintro e w1 ⟨d1,rfl,s1,n1,h1⟩;have V1:=hid (Af V0 h1);have LN1:=hid (n1.low (Nat.le_trans B0.out.size V0.out.size));have S1:=hid s1;obtain⟨e0,e1,e2,e3,e4,e5,e6⟩:=(A0' _ V1).seven;have V1a:=hid (V1.out.alloc V1.out.size (.cells #[] 2));have lt1:w.heap.size<w1.heap.size:=(A0' _ V1).lt;have nx1:¬w.heap.size=w1.heap.size:=(by omega);obtain⟨p0,p1,p2,p3,p4,p5,p6⟩:=(A0' _ V1a).seven)|(refine(PA _ V0a).mono ?_;rintro e w1 ⟨d1,rfl,s1,n1,h1⟩;have V1:=hid (Af V0a h1);have LN1:=hid (n1.low (Nat.le_trans B0.out.size V0a.out.size));have S1:=hid s1;obtain⟨e0,e1,e2,e3,e4,e5,e6⟩:=(A0' _ V1).seven;have EO1:=hid (EO0.out.below h1);have V1a:=hid (V1.out.alloc V1.out.size (.cells #[] 2));have lt1:w.heap.size<w1.heap.size:=(A0' _ V1).lt;have nx1:¬w.heap.size=w1.heap.size:=(by omega);obtain⟨p0,p1,p2,p3,p4,p5,p6⟩:=(A0' _ V1a).seven))
    |(go_at_call 92;have mq':=mk2;clear mk2;first|(refine(PB _ V1).mono ?_;rintro e w2 ⟨d2,rfl,s2,n2,h2⟩;have V2:=hid (Af V1 h2);have LN2:=hid (n2.low (Nat.le_trans B0.out.size V1.out.size));have H12:=hid h2;have S2:=hid s2;obtain⟨f0,f1,f2,f3,f4,f5,f6⟩:=(A0' _ V2).seven;have EO2:=hid (EO1.out.below h2);have V2a:=hid (V2.out.alloc V2.out.size (.cells #[] 2));have lt2:w.heap.size<w2.heap.size:=(A0' _ V2).lt;have nx2:¬w.heap.size=w2.heap.size:=(by omega);obtain⟨r0,r1,r2,r3,r4,r5,r6⟩:=(A0' _ V2a).seven)|(refine(PB _ V1).mono ?_;rintro e w2 ⟨d2,rfl,s2,n2,h2⟩;have V2:=hid (Af V1 h2);have LN2:=hid (n2.low (Nat.le_trans B0.out.size V1.out.size));have H12:=hid h2;have S2:=hid s2;obtain⟨f0,f1,f2,f3,f4,f5,f6⟩:=(A0' _ V2).seven;have V2a:=hid (V2.out.alloc V2.out.size (.cells #[] 2));have lt2:w.heap.size<w2.heap.size:=(A0' _ V2).lt;have nx2:¬w.heap.size=w2.heap.size:=(by omega);obtain⟨r0,r1,r2,r3,r4,r5,r6⟩:=(A0' _ V2a).seven)|(have EOm:=hid (Az.made w1 w (Nat.le_trans B0.out.size V1.out.size));(refine(PB _ V1a).mono ?_;rintro e w2 ⟨d2,rfl,s2,n2,h2⟩;have V2:=hid (Af V1a h2);have LN2:=hid (n2.low (Nat.le_trans B0.out.size V1a.out.size));have H12:=hid (Af (Be w1 (.cells #[] 2)) h2);have S2:=hid s2;obtain⟨f0,f1,f2,f3,f4,f5,f6⟩:=(A0' _ V2).seven;have EO2:=hid (EOm.out.below h2);have V2a:=hid (V2.out.alloc V2.out.size (.cells #[] 2));have lt2:w.heap.size<w2.heap.size:=(A0' _ V2).lt;have nx2:¬w.heap.size=w2.heap.size:=(by omega);obtain⟨r0,r1,r2,r3,r4,r5,r6⟩:=(A0' _ V2a).seven)))
    |(refine Gm (by rfl) _ _ (by rfl) w V (by rfl) EO2 _ _ _ t.own.h (by rfl) (TO _ V2) m3 (V2.out.size |> Nat.le_trans B0.out.size) ?_;intro a3 c3 w3 n3 cp3 g3;have CAP:=hid cp3;clear cp3;have HB3:Hid (∀b m F,w2.rowIs b 117 m F->w3.heap[b]? =w2.heap[b]?):=hid (fun b m F hr=>g3.block b hr.lt (fun e=>Nk hr EO2 (Option.some.inj e)));have SZ3:=hid g3.size;have NG:Hid (∀k,k<V.heap.size->some k≠some V):=hid (fun k hk e=>Nat.lt_irrefl _ (Nat.lt_of_lt_of_le (Option.some.inj e▸hk) (Nat.le_refl _)));have B3:Hid (Below V V w3):=hid (V2.out.trans (below_grown g3 V2.out.size (fun j hj=>by cases hj;exact Nat.le_refl _)));have X3:=hid (V2.out);obtain⟨g0,g1,g2,g3',g4,g5,g6⟩:=(A0' _ B3).seven;obtain⟨k0,k1,k2,k3,k4,k5,k6⟩:=(R0'.out.below B3).seven;have kf:=(R0'.out.below B3).jC;have N3:=hid n3;have G3:=hid g3;clear n3 g3)
    |(refine Gm (by rfl) _ _ (by rfl) w w1 (by rfl) EO2 _ _ _ t.own.h (by rfl) (TO _ V2) m3 (V2.out.size |> Nat.le_trans B0.out.size) ?_;intro a3 c3 w3 n3 cp3 g3;have CAP:=hid cp3;clear cp3;have HB3:Hid (∀b m F,w2.rowIs b 117 m F->w3.heap[b]? =w2.heap[b]?):=hid (fun b m F hr=>g3.block b hr.lt (fun e=>Nk hr EO2 (Option.some.inj e)));have SZ3:=hid g3.size;have NG:Hid (∀k,k<V.heap.size->some k≠some w1):=hid (fun k hk e=>Nat.lt_irrefl _ (Nat.lt_of_lt_of_le (Option.some.inj e▸hk) (V1.out.size)));have B3:Hid (Below V V w3):=hid (V2.out.trans (below_grown g3 V2.out.size (fun j hj=>by cases hj;exact V1.out.size)));have X3:=hid (V2.out);obtain⟨g0,g1,g2,g3',g4,g5,g6⟩:=(A0' _ B3).seven;obtain⟨k0,k1,k2,k3,k4,k5,k6⟩:=(R0'.out.below B3).seven;have kf:=(R0'.out.below B3).jC;have N3:=hid n3;have G3:=hid g3;clear n3 g3)
    |(refine Gm (by rfl) _ _ (by rfl) w w2 (by rfl) (Az.made w2 w (Nat.le_trans B0.out.size V2.out.size)) _ _ _ t.own.h (by rfl) (TO _ V2a) m3 (V2a.out.size |> Nat.le_trans B0.out.size) ?_;intro a3 c3 w3 n3 cp3 g3;have CAP:=hid cp3;clear cp3;have HB3:Hid (∀b m F,w2.rowIs b 117 m F->w3.heap[b]? =w2.heap[b]?):=hid (fun b m F hr=>(g3.block b (Nat.lt_of_lt_of_le hr.lt ((Below.refl _ w2).alloc (Nat.le_refl _) (.cells #[] 2)).size) (fun e=>Nat.ne_of_lt hr.lt (Option.some.inj e))).trans (blk_alloc_lt _ _ _ hr.lt));have SZ3:=hid (Nat.le_trans ((Below.refl _ w2).alloc (Nat.le_refl _) (.cells #[] 2)).size g3.size);have NG:Hid (∀k,k<V.heap.size->some k≠some w2):=hid (fun k hk e=>Nat.lt_irrefl _ (Nat.lt_of_lt_of_le (Option.some.inj e▸hk) (V2.out.size)));have B3:Hid (Below V V w3):=hid (V2a.out.trans (below_grown g3 V2a.out.size (fun j hj=>by cases hj;exact V2.out.size)));have X3:=hid (V2a.out);obtain⟨g0,g1,g2,g3',g4,g5,g6⟩:=(A0' _ B3).seven;obtain⟨k0,k1,k2,k3,k4,k5,k6⟩:=(R0'.out.below B3).seven;have kf:=(R0'.out.below B3).jC;have N3:=hid n3;have G3:=hid g3;clear n3 g3))
 all_goals(
  have Q1:=hid ((LN1.out.below H12).over SZ3 HB3);have Q2:=hid (LN2.out.over SZ3 HB3);have BB:=hid (Af B0 B3);have RR:=hid (R0'.out.below B3);clear LN1 LN2 H12 HB3 SZ3 G3 NG X3 V0 V0a EO0 PA PB TO A0';go_wp2;refine bodyPost_ret (VH _ _ (w.heap.size+1) (.int .i64 t.id) (.int .i64 t.b1) (.slice d1.a d1.n d1.k) (.int .i64 t.b2) (.slice d2.a d2.n d2.k) (.slice a3 t.own.n c3) (.int .i64 t.made) (Ah.all7 RR _ _ _ _ _ _ _) rfl) rfl ⟨⟨t.id,t.b1,d1,t.b2,d2,⟨a3,t.own.n,c3,t.own.h⟩,t.made⟩,rfl,⟨rfl,rfl,S1,rfl,S2,⟨rfl,rfl⟩,rfl⟩,⟨?_,?_,?_⟩,CAP,?_⟩
  ·refine Q1.out.of (by simp) (fun g hg hn'=>?_);have q2:=Q1.out.ne RR (by decide) g hg hn';iterate 7 rw[blk_setCell_other _ _ _ _ (by dsimp only;omega)]
  ·refine Q2.out.of (by simp) (fun g hg hn'=>?_);have q2:=Q2.out.ne RR (by decide) g hg hn';iterate 7 rw[blk_setCell_other _ _ _ _ (by dsimp only;omega)]
  ·refine N3.out.of (by simp) (fun g hg hn'=>?_);have q2:=N3.out.ne RR (by decide) g hg hn';iterate 7 rw[blk_setCell_other _ _ _ _ (by dsimp only;omega)]
  ·iterate 7 refine Below.setCell ?_ (by dsimp only;omega) _
   exact BB.out)
variable {w:World}{B n c:Nat}{a:Option Addr}
theorem VG(tmps:Array Value)(W:World)(P:Nat)(x0 x1 x2 x3 x4 x5 x6 x7 x8 x9:Value)(h:Ah W P (.cells #[x0,x1,x2,x3,x4,x5,x6,x7,x8,x9] 63))(h2:tmps[2]? =some (.pointer P)):
 (results Tryz.f88 tmps).run prog W= .ok (.agg #[x0,x1,x2,x3,x4,x5,x6,x7,x8,x9]) W:=by
 obtain⟨z0,z1,z2,z3,z4,z5,z6,z7,z8,z9⟩:=h.jE;simp[results,Tryz.results88,go_sem,h2,z0,z1,z2,z3,z4,z5,z6,z7,z8,z9]
theorem PF{f:Nat->ByteArray}(h:w.ownsRow B 9 1 (.slice a n c) n ((List.range n).map (fun i=>Value.string (f i))))(hn:n<=1048576)(hz:∀i,i<n->(f i).size<=maxLen):AF.new B w ⟨a,n,c,f⟩:=by
 have hi:Jl w a n f:=fun h0=>by
  obtain⟨b,off,e,hlt,hcc⟩:=Bp.own h h0;exact⟨b,off,e,hlt,fun i hi=>hcc i _ (by simp[hi])⟩
 exact⟨⟨by unfold maxLen;simp only;omega,hi,hz⟩,fun h0=>Mw h h0⟩
theorem PI{f:Nat->Int}(h:w.ownsRow B 2 1 (.slice a n c) n (((List.range n).map f).map (Value.int .i64)))(hn:n<=1048576):AI.new B w ⟨a,n,c,f⟩:=by
 have el:((List.range n).map f).length=n:=by simp
 have ho':Az w B (.slice a ((List.range n).map f).length c) ((List.range n).map f):=by unfold Az;rw[el];exact h
 have hi:Bj w a n f:=fun h0=>by
  obtain⟨b,off,e,hlt,hcc⟩:=(Az.lies ho').ints (by rw[el];exact h0);refine⟨b,off,e,hlt,fun i hi=>?_⟩;have:=hcc i (by rw[el];exact hi);rw[this];simp[AX,hi]
 exact⟨⟨by unfold maxLen;simp only;omega,hi⟩,fun h0=>by have:=Dt h h0;simpa using this⟩
theorem Ln(t:Ab)(w:World)(ht:t.at w)(hs:t.small):
 Calls prog 88 #[t.val] w fun e w'=>∃u:Ab,e= .returned u.val/\t.same u/\u.new w w'/\(u.jA.n<=u.jA.k/\u.jA.k<=maxLen)/\Below w w w':=by
 have b0:Below w w ((w.alloc t.blk).alloc Fs):=(Be w _).alloc (by simp) _;have A0:=(Ah.new w t.blk).alloc Fs;have R0:Ah ((w.alloc t.blk).alloc Fs) (w.heap.size+1) Fs:=by
  have:=Ah.new (w.alloc t.blk) Fs;simpa using this
 have HT:=hid ht;obtain⟨m1,m2,m3,m4,m5⟩:=hs;have ne1:¬w.heap.size+1=w.heap.size:=by omega
 have ne2:¬w.heap.size=w.heap.size+1:=by omega
 have PA:Hid (∀W,Below w w W->Calls prog 92 #[.agg #[t.b1,t.c1.val]] W fun e w'=>∃d:Au,e= .returned (.agg #[t.b1,d])/\t.c1.same d/\d.new W w'/\Below W W w'):=hid (fun W hW=>Cw t.b1 t.c1 W (HT.out.below hW).1 m1);have PB:Hid (∀W,Below w w W->Calls prog 92 #[.agg #[t.b2,t.c2.val]] W fun e w'=>∃d:Au,e= .returned (.agg #[t.b2,d])/\t.c2.same d/\d.new W w'/\Below W W w'):=hid (fun W hW=>Cw t.b2 t.c2 W (HT.out.below hW).2.2.2.1 m5);have LS:Hid (∀W,Below w w W->Bp W t.jA.a t.jA.n ((List.range t.jA.n).map (fun i=>Value.string (t.jA.f i)))):=hid (fun W hW=>LP (HT.out.below hW).2.1.2.1);have LI:Hid (∀W,Below w w W->Bp W t.own.a t.own.n (((List.range t.own.n).map t.own.h).map (Value.int .i64))):=hid (fun W hW=>by
  have L0:=(HT.out.below hW).2.2.1.2.intL;have el:((List.range t.own.n).map t.own.h).length=t.own.n:=by simp
  unfold Dw at L0;rw[el]at L0;exact L0)
 have ZI:=hid (HT.out.2.1.2.2);unfold Ab.blk Fs at b0 A0 R0;unfold Ab.val;unfold Au.val AI.val AF.val at *;clear ht;obtain⟨x0,x1,x2,x3,x4,x5,x6,x7,x8,x9⟩:=A0.jE;have C1:=hid (PA.out _ b0);go_enter func88,ntmps88
 go_wp2_with fail
 refine C1.out.mono ?_;rintro e w1 ⟨d1,rfl,s1,n1,h1⟩;have S1:=hid s1;have A1:=A0.below h1;have R1:=R0.below h1;have B1:=Af b0 h1;have L1:=b0.size;have N1:=hid (n1.low L1);have af:=A1.jC;have A1':Ah ((w1.setCell ⟨w,3,none⟩ (.int .i64 t.b1)).setCell ⟨w,4,none⟩ (.slice d1.a d1.n d1.k)) w (.cells #[t.id,t.kind,t.up,t.b1,d1,.string t.data,t.jA,t.own,t.b2,t.c2] 63):=(A1.jB (i:=3) (.int .i64 t.b1)).jB (i:=4) (.slice d1.a d1.n d1.k);have n7:No (.cells #[.int .i64 0,.int .i64 0,.int .i64 0,.int .i64 0,.slice none 0 0,.string (ByteArray.mk #[]),.slice none 0 0,.slice none 0 0,.int .i64 0,.slice none 0 0] 63):=⟨⟩;have n3:No n7:=⟨⟩;have R1':Ah ((w1.setCell ⟨w,3,none⟩ (.int .i64 t.b1)).setCell ⟨w,4,none⟩ (.slice d1.a d1.n d1.k)) (w.heap.size+1) n3:=(R1.other (by omega) _).other (by omega) _;have B1':Below w w ((w1.setCell ⟨w,3,none⟩ (.int .i64 t.b1)).setCell ⟨w,4,none⟩ (.slice d1.a d1.n d1.k)):=(B1.setCell nr _).setCell nr _;have N1':Hid (d1.new w ((w1.setCell ⟨w,3,none⟩ (.int .i64 t.b1)).setCell ⟨w,4,none⟩ (.slice d1.a d1.n d1.k))):=hid (N1.out.of (by simp) (fun g hg hn'=>by
  have q1:=N1.out.ne A1 (by decide) g hg hn';iterate 2 rw[blk_setCell_other _ _ _ _ (by dsimp only;omega)]))
 obtain⟨y0,y1,y2,y3,y4,y5,y6,y7,y8,y9⟩:=A1.jE;obtain⟨z0,z1,z2,z3,z4,z5,z6,z7,z8,z9⟩:=A1'.jE;have C2:=hid (PB.out _ B1');clear x0 x1 x2 x3 x4 x5 x6 x7 x8 x9 C1 s1 n1 h1 N1 A0 R0 b0 R1 B1;go_wp2_with fail
 refine C2.out.mono ?_;rintro e w2 ⟨d2,rfl,s2,n2,h2⟩;have S2:=hid s2;have A2:=A1'.below h2;have R2:=R1'.below h2;have B2:=Af B1' h2;have N1:=hid (N1'.out.below h2);have N2:=hid (n2.low B1'.size);have af2:=A2.jC;have n4:No (.cells #[t.id,t.kind,t.up,t.b1,d1,.string t.data,t.jA,t.own,t.b2,d2] 63):=⟨⟩;have A2':Ah ((w2.setCell ⟨w,8,none⟩ (.int .i64 t.b2)).setCell ⟨w,9,none⟩ (.slice d2.a d2.n d2.k)) w n4:=(A2.jB (i:=8) (.int .i64 t.b2)).jB (i:=9) (.slice d2.a d2.n d2.k);have R2':Ah ((w2.setCell ⟨w,8,none⟩ (.int .i64 t.b2)).setCell ⟨w,9,none⟩ (.slice d2.a d2.n d2.k)) (w.heap.size+1) n3:=(R2.other (by omega) _).other (by omega) _;have B2':Below w w ((w2.setCell ⟨w,8,none⟩ (.int .i64 t.b2)).setCell ⟨w,9,none⟩ (.slice d2.a d2.n d2.k)):=(B2.setCell nr _).setCell nr _;have M1:Hid (d1.new w ((w2.setCell ⟨w,8,none⟩ (.int .i64 t.b2)).setCell ⟨w,9,none⟩ (.slice d2.a d2.n d2.k))):=hid (N1.out.of (by simp) (fun g hg hn'=>by
  have q1:=N1.out.ne A2 (by decide) g hg hn';iterate 2 rw[blk_setCell_other _ _ _ _ (by dsimp only;omega)]))
 have M2:Hid (d2.new w ((w2.setCell ⟨w,8,none⟩ (.int .i64 t.b2)).setCell ⟨w,9,none⟩ (.slice d2.a d2.n d2.k))):=hid (N2.out.of (by simp) (fun g hg hn'=>by
  have q1:=N2.out.ne A2 (by decide) g hg hn';iterate 2 rw[blk_setCell_other _ _ _ _ (by dsimp only;omega)]))
 clear y0 y1 y2 y3 y4 y5 y6 y7 y8 y9 z0 z1 z2 z3 z4 z5 z6 z7 z8 z9 C2 s2 n2 h2 N1 N2 N1' A1 A1' R1' B1' R2 B2 af L1;obtain⟨y0,y1,y2,y3,y4,y5,y6,y7,y8,y9⟩:=A2.jE;have n5:Nw (((w2.setCell ⟨w,8,none⟩ (.int .i64 t.b2)).setCell ⟨w,9,none⟩ (.slice d2.a d2.n d2.k)).alloc (.cells #[] 9)):=⟨⟩;have b3:Below ((w2.setCell ⟨w,8,none⟩ (.int .i64 t.b2)).setCell ⟨w,9,none⟩ (.slice d2.a d2.n d2.k)).heap.size ((w2.setCell ⟨w,8,none⟩ (.int .i64 t.b2)).setCell ⟨w,9,none⟩ (.slice d2.a d2.n d2.k)) n5:=Be _ _;have e2:((w2.setCell ⟨w,8,none⟩ (.int .i64 t.b2)).setCell ⟨w,9,none⟩ (.slice d2.a d2.n d2.k)).heap.size=w2.heap.size:=by simp
 have n6:Nv (.slice (w2) 0 0):=⟨⟩;have OM:Hid ((n5:World).ownsRow w 9 1 n6 0 []):=hid (by
  have:=World.ownsRow_made (e:=9) (size:=1) ((w2.setCell ⟨w,8,none⟩ (.int .i64 t.b2)).setCell ⟨w,9,none⟩ (.slice d2.a d2.n d2.k)) #[] 0 B2'.size (Nat.zero_le _) rfl;rw[e2]at this;exact this)
 have LM:=hid (LS.out _ (Af B2' b3));have SZ:=(Af B2' b3).size;have P2:w.heap.size+1<w2.heap.size:=by have:=R2'.lt;rw[e2]at this;exact this
 obtain⟨z0,z1,z2,z3,z4,z5,z6,z7,z8,z9⟩:=(A2'.below b3).jE;have F3:Hid (∀(a3:Option Addr) (c3:Nat) (w3:World),w3.ownsRow w 9 1 (.slice a3 t.jA.n c3) t.jA.n ((List.range t.jA.n).map (fun i=>Value.string (t.jA.f i)))->(n5:World).grownBy w3 (some w2)->Ah w3 w n4/\Ah w3 (w.heap.size+1) n3/\Below w w w3/\d1.new w w3/\d2.new w w3/\AF.new w w3 ⟨a3,t.jA.n,c3,t.jA.f⟩):=hid (fun a3 c3 w3 o3 g3=>by
  have rn:∀c:Au,c.new w ((w2.setCell ⟨w,8,none⟩ (.int .i64 t.b2)).setCell ⟨w,9,none⟩ (.slice d2.a d2.n d2.k))->c.new w w3:=fun c hc=>(hc.below b3).of g3.size (fun b hb hn=>g3.block b (by obtain⟨b',_,_,e',_,_,hr⟩:=(hc.below b3).2 hn;rw[hb]at e';cases e';exact hr.lt) (fun e=>by
   obtain⟨b',_,_,e',_,_,hr⟩:=hc.2 hn;rw[hb]at e';cases e';have h1:=hr.lt;have h2:=Option.some.inj e;rw[e2]at h1;omega))
  refine⟨(A2'.below b3).grown g3 (by simp;omega),(R2'.below b3).grown g3 (by simp;omega),(Af B2' b3).trans (below_grown g3 SZ (fun j hj=>by cases hj;omega)),rn d1 M1,rn d2 M2,PF o3 m3.1 ZI⟩)
 have AR3:Hid (∀(a3:Option Addr) (c3:Nat) (w3:World),Ah w3 w n4->Ah w3 (w.heap.size+1) n3->Below w w w3->d1.new w w3->d2.new w w3->AF.new w w3 ⟨a3,t.jA.n,c3,t.jA.f⟩->
  Ah (w3.setCell ⟨w,6,none⟩ (.slice a3 t.jA.n c3)) w (.cells #[t.id,t.kind,t.up,t.b1,d1,.string t.data,.slice a3 t.jA.n c3,t.own,t.b2,d2] 63)/\Ah (w3.setCell ⟨w,6,none⟩ (.slice a3 t.jA.n c3)) (w.heap.size+1) n3/\Below w w (w3.setCell ⟨w,6,none⟩ (.slice a3 t.jA.n c3))/\d1.new w (w3.setCell ⟨w,6,none⟩ (.slice a3 t.jA.n c3))/\d2.new w (w3.setCell ⟨w,6,none⟩ (.slice a3 t.jA.n c3))/\AF.new w (w3.setCell ⟨w,6,none⟩ (.slice a3 t.jA.n c3)) ⟨a3,t.jA.n,c3,t.jA.f⟩):=hid (fun a3 c3 w3 A R B k1 k2 k4=>
  ⟨A.jB (i:=6) _,R.other (by omega) _,B.setCell nr _,k1.of (by simp) (fun g hg hn'=>by have q1:=k1.ne A (by decide) g hg hn';rw[blk_setCell_other _ _ _ _ (by dsimp only;omega)]),k2.of (by simp) (fun g hg hn'=>by have q1:=k2.ne A (by decide) g hg hn';rw[blk_setCell_other _ _ _ _ (by dsimp only;omega)]),k4.of (by simp) (fun g hg hn'=>by have q1:=k4.ne A (by decide) g hg hn';rw[blk_setCell_other _ _ _ _ (by dsimp only;omega)])⟩)
 have O3:Hid (∀(a3:Option Addr) (c3:Nat) (w3:World),Below w w (w3.setCell ⟨w,6,none⟩ (.slice a3 t.jA.n c3))->((w3.setCell ⟨w,6,none⟩ (.slice a3 t.jA.n c3)).alloc (.cells #[] 2)).ownsRow w 2 1 (.slice (w3) 0 0) 0 []):=hid (fun a3 c3 w3 B=>by
  have:=World.ownsRow_made (e:=2) (size:=1) (w3.setCell ⟨w,6,none⟩ (.slice a3 t.jA.n c3)) #[] 0 B.size (Nat.zero_le _) rfl;have e3:(w3.setCell ⟨w,6,none⟩ (.slice a3 t.jA.n c3)).heap.size=w3.heap.size:=by simp
  rw[e3]at this;exact this)
 have F4:Hid (∀(a3:Option Addr) (c3:Nat) (w3:World) (a4:Option Addr) (c4:Nat) (w4:World),Ah (w3.setCell ⟨w,6,none⟩ (.slice a3 t.jA.n c3)) w (.cells #[t.id,t.kind,t.up,t.b1,d1,.string t.data,.slice a3 t.jA.n c3,t.own,t.b2,d2] 63)->Ah (w3.setCell ⟨w,6,none⟩ (.slice a3 t.jA.n c3)) (w.heap.size+1) n3->Below w w (w3.setCell ⟨w,6,none⟩ (.slice a3 t.jA.n c3))->d1.new w (w3.setCell ⟨w,6,none⟩ (.slice a3 t.jA.n c3))->d2.new w (w3.setCell ⟨w,6,none⟩ (.slice a3 t.jA.n c3))->AF.new w (w3.setCell ⟨w,6,none⟩ (.slice a3 t.jA.n c3)) ⟨a3,t.jA.n,c3,t.jA.f⟩->w4.ownsRow w 2 1 (.slice a4 t.own.n c4) t.own.n (((List.range t.own.n).map t.own.h).map (Value.int .i64))->((w3.setCell ⟨w,6,none⟩ (.slice a3 t.jA.n c3)).alloc (.cells #[] 2)).grownBy w4 (some w3)->
  Ah w4 w (.cells #[t.id,t.kind,t.up,t.b1,d1,.string t.data,.slice a3 t.jA.n c3,t.own,t.b2,d2] 63)/\Ah w4 (w.heap.size+1) n3/\Below w w w4/\d1.new w w4/\d2.new w w4/\AF.new w w4 ⟨a3,t.jA.n,c3,t.jA.f⟩/\AI.new w w4 ⟨a4,t.own.n,c4,t.own.h⟩):=hid (fun a3 c3 w3 a4 c4 w4 A R B k1 k2 k4 o4 g4=>by
  have e3:(w3.setCell ⟨w,6,none⟩ (.slice a3 t.jA.n c3)).heap.size=w3.heap.size:=by simp
  have b4:Below (w3.setCell ⟨w,6,none⟩ (.slice a3 t.jA.n c3)).heap.size (w3.setCell ⟨w,6,none⟩ (.slice a3 t.jA.n c3)) ((w3.setCell ⟨w,6,none⟩ (.slice a3 t.jA.n c3)).alloc (.cells #[] 2)):=Be _ _;have l1:=A.lt;have l2:=R.lt;rw[e3]at l1 l2;have rn:∀c:Au,c.new w (w3.setCell ⟨w,6,none⟩ (.slice a3 t.jA.n c3))->c.new w w4:=fun c hc=>(hc.below b4).of g4.size (fun b hb hn=>g4.block b (by obtain⟨b',_,_,e',_,_,hr⟩:=(hc.below b4).2 hn;rw[hb]at e';cases e';exact hr.lt) (fun e=>by
   obtain⟨b',_,_,e',_,_,hr⟩:=hc.2 hn;rw[hb]at e';cases e';have h1:=hr.lt;have h2:=Option.some.inj e;rw[e3]at h1;omega))
  refine⟨(A.below b4).grown g4 (by simp;omega),(R.below b4).grown g4 (by simp;omega),(Af B b4).trans (below_grown g4 (Af B b4).size (fun j hj=>by cases hj;omega)),rn d1 k1,rn d2 k2,(k4.below b4).of g4.size (fun b hb hn=>g4.block b (by obtain⟨b',_,_,e',_,_,hr⟩:=(k4.below b4).2 hn;rw[hb]at e';cases e';exact hr.lt) (fun e=>by
   obtain⟨b',_,_,e',_,_,hr⟩:=k4.2 hn;rw[hb]at e';cases e';have h1:=hr.lt;have h2:=Option.some.inj e;rw[e3]at h1;omega)),PI o4 m4⟩)
 have mk1:True:=trivial;have bb4:Hid (∀W:World,Below W W (W.alloc (.cells #[] 2))):=hid (fun W=>Be _ _);have ln1:t.jA.n<=1048576:=m3.1;clear A2' R2' B2' M1 M2 b3 A2;go_wp2_with(first
  |(have mq:=mk1;clear mk1;refine BU underlying61 Tryz.info9 rfl (by omega) _ rfl _ _ rfl w n6 0 [] rfl OM t.jA.a t.jA.n t.jA.k ((List.range t.jA.n).map (fun i=>Value.string (t.jA.f i))) rfl (by simp) LM (fun u hu=>by obtain⟨y,_,rfl⟩:=List.mem_map.1 hu;rfl) (by omega) (by omega) SZ ?_;intro a3 c3 w3 o3 g3;rw[Nat.zero_add,List.nil_append]at o3;rw[Nat.zero_add];have CAP:=hid (Dm o3);obtain⟨A3,R3,B3,K1,K2,K4⟩:=F3.out a3 c3 w3 o3 g3;obtain⟨A3',R3',B3',K1',K2',K4'⟩:=AR3.out a3 c3 w3 A3 R3 B3 K1 K2 K4;have HA3:=hid A3';have HR3:=hid R3';have HB3:=hid B3';have HK1:=hid K1';have HK2:=hid K2';have HK4:=hid K4';have OM2:=hid (O3.out a3 c3 w3 B3');have LM2:=hid (LI.out _ (Af B3' (bb4 _)));have SZ2:=hid (Af B3' (bb4 _)).size;obtain⟨p0,p1,p2,p3,p4,p5,p6,p7,p8,p9⟩:=A3.jE;have pf:=A3.jC;obtain⟨q0,q1,q2,q3,q4,q5,q6,q7,q8,q9⟩:=(A3'.below (bb4 _)).jE;clear o3 g3 A3 R3 B3 K1 K2 K4 A3' R3' B3' K1' K2' K4' F3 AR3 O3 OM LM)
  |(refine BU underlying55 Tryz.info2 rfl (by omega) _ rfl _ _ rfl w (.slice (some ⟨w3,0,none⟩) 0 0) 0 [] rfl OM2 t.own.a t.own.n t.own.k (((List.range t.own.n).map t.own.h).map (Value.int .i64)) rfl (by simp) LM2 (fun u hu=>by obtain⟨y,_,rfl⟩:=List.mem_map.1 hu;rfl) (by omega) (by omega) SZ2 ?_;intro a4 c4 w4 o4 g4;rw[Nat.zero_add,List.nil_append]at o4;rw[Nat.zero_add];obtain⟨A4,R4,B4,K1,K2,K4,K3⟩:=F4.out a3 c3 w3 a4 c4 w4 HA3 HR3 HB3 HK1 HK2 HK4 o4 g4;have HA4:=hid A4;have HR4:=hid R4;have HB4:=hid B4;have J1:=hid K1;have J2:=hid K2;have J3:=hid K3;have J4:=hid K4;obtain⟨u0,u1,u2,u3,u4,u5,u6,u7,u8,u9⟩:=A4.jE;have uf:=A4.jC;have A4':Ah (w4.setCell ⟨w,7,none⟩ (.slice a4 t.own.n c4)) w (.cells #[t.id,t.kind,t.up,t.b1,d1,.string t.data,.slice a3 t.jA.n c3,.slice a4 t.own.n c4,t.b2,d2] 63):=A4.jB (i:=7) _;have R4':Ah (w4.setCell ⟨w,7,none⟩ (.slice a4 t.own.n c4)) (w.heap.size+1) n7:=R4.other (by omega) _;have HR4':=hid R4';obtain⟨v0,v1,v2,v3,v4,v5,v6,v7,v8,v9⟩:=A4'.jE;obtain⟨r0,r1,r2,r3,r4,r5,r6,r7,r8,r9⟩:=R4'.jE;have rf:=R4'.jC;clear o4 g4 A4 R4 B4 K1 K2 K3 K4 A4' R4'))
 refine bodyPost_ret (VG _ _ (w.heap.size+1) (.int .i64 t.id) (.int .i64 t.kind) (.int .i64 t.up) (.int .i64 t.b1) (.slice d1.a d1.n d1.k) (.string t.data) (.slice a3 t.jA.n c3) (.slice a4 t.own.n c4) (.int .i64 t.b2) (.slice d2.a d2.n d2.k) (Ah.all10 HR4' _ _ _ _ _ _ _ _ _ _) rfl) rfl ⟨⟨t.id,t.kind,t.up,t.b1,d1,t.data,⟨a3,t.jA.n,c3,t.jA.f⟩,⟨a4,t.own.n,c4,t.own.h⟩,t.b2,d2⟩,rfl,⟨rfl,rfl,rfl,rfl,S1,rfl,⟨rfl,rfl⟩,⟨rfl,rfl⟩,rfl,S2⟩,⟨?_,?_,?_,?_⟩,CAP,?_⟩
 ·refine J1.out.of (by simp) (fun g hg hn'=>?_);have q1:=J1.out.ne HA4 (by decide) g hg hn';have q2:=J1.out.ne HR4 (by decide) g hg hn';iterate 11 rw[blk_setCell_other _ _ _ _ (by dsimp only;omega)]
 ·refine J4.out.of (by simp) (fun g hg hn'=>?_);have q1:=J4.out.ne HA4 (by decide) g hg hn';have q2:=J4.out.ne HR4 (by decide) g hg hn';iterate 11 rw[blk_setCell_other _ _ _ _ (by dsimp only;omega)]
 ·refine J3.out.of (by simp) (fun g hg hn'=>?_);have q1:=J3.out.ne HA4 (by decide) g hg hn';have q2:=J3.out.ne HR4 (by decide) g hg hn';iterate 11 rw[blk_setCell_other _ _ _ _ (by dsimp only;omega)]
 ·refine J2.out.of (by simp) (fun g hg hn'=>?_);have q1:=J2.out.ne HA4 (by decide) g hg hn';have q2:=J2.out.ne HR4 (by decide) g hg hn';iterate 11 rw[blk_setCell_other _ _ _ _ (by dsimp only;omega)]
 ·iterate 11 refine Below.setCell ?_ (by dsimp only;omega) _
  exact HB4.out
variable {w w':World}{P t B B' i:Nat}{c:AI}{v vt vo:Value}{lt:List Ae}{lo:List Ab}
structure C9(w w':World):Prop where
 size:w.heap.size<=w'.heap.size
 block:∀(k:Nat) (cs:Array Value) (t:TypeId),w.heap[k]? =some (Obj.cells cs t (0,0))->t≠57->t≠63->w'.heap[k]? =w.heap[k]?
theorem C9.blk{cs:Array Value}(h:C9 w w')(hb:Ah w P (.cells cs t))(h1:t≠57)(h2:t≠63):Ah w' P (.cells cs t):=(h.block P cs t hb h1 h2).trans hb
theorem C9.of_below(h:Below w w w'):C9 w w':=⟨h.size,fun k _ _ hk _ _=>h.block k (Array.getElem?_eq_some_iff.1 hk).1⟩
theorem Kg{b ty m:Nat}{F:Nat->Value}(hr:w.rowIs b ty m F):∃cs,w.heap[b]? =some (.cells cs ty (0,0)):=by
 obtain⟨c,h1,_⟩:=hr;exact⟨c,h1⟩
theorem AI.new.over(h:c.new B w)(hs:w.heap.size<=w'.heap.size)(hb:∀b m F,w.rowIs b 2 m F->w'.heap[b]? =w.heap[b]?):c.new B w':=h.of hs (fun b e hn=>by
 obtain⟨b',m,F,e',_,_,hr⟩:=h.2 hn;rw[e]at e';cases e';exact hb b m F hr)
theorem AF.new.over{c:AF}(h:c.new B w)(hs:w.heap.size<=w'.heap.size)(hb:∀b m F,w.rowIs b 9 m F->w'.heap[b]? =w.heap[b]?):c.new B w':=h.of hs (fun b e hn=>by
 obtain⟨b',m,F,e',_,_,hr⟩:=h.2 hn;rw[e]at e';cases e';exact hb b m F hr)
structure En(w w':World):Prop where
 size:w.heap.size<=w'.heap.size
 block:∀(k:Nat) (cs:Array Value) (t:TypeId),w.heap[k]? =some (Obj.cells cs t (0,0))->t=117∨t=2∨t=9->w'.heap[k]? =w.heap[k]?
theorem C9.l(h:C9 w w'):En w w':=⟨h.size,fun k cs t hk ht=>h.block k cs t hk (by rcases ht with rfl|rfl|rfl<;>decide) (by rcases ht with rfl|rfl|rfl<;>decide)⟩
theorem Au.new.keeps{c:Au}(h:c.new B w)(k:En w w'):c.new B w':=h.over k.size (fun b m F hr=>by obtain⟨cs,hh⟩:=Kg hr;exact k.block b cs _ hh (.inl rfl))
theorem AI.new.keeps(h:c.new B w)(k:En w w'):c.new B w':=h.over k.size (fun b m F hr=>by obtain⟨cs,hh⟩:=Kg hr;exact k.block b cs _ hh (.inr (.inl rfl)))
theorem AF.new.keeps{c:AF}(h:c.new B w)(k:En w w'):c.new B w':=h.over k.size (fun b m F hr=>by obtain⟨cs,hh⟩:=Kg hr;exact k.block b cs _ hh (.inr (.inr rfl)))
theorem Ae.new.keeps{t:Ae}(h:t.new B w)(k:En w w'):t.new B w':=⟨h.1.keeps k,h.2.1.keeps k,h.2.2.keeps k⟩
theorem Ab.new.keeps{t:Ab}(h:t.new B w)(k:En w w'):t.new B w':=⟨h.1.keeps k,h.2.1.keeps k,h.2.2.1.keeps k,h.2.2.2.keeps k⟩
theorem Ae.new.low{t:Ae}(h:t.new B w)(hB:B'<=B):t.new B' w:=⟨h.1.low hB,h.2.1.low hB,h.2.2.low hB⟩
theorem Ab.new.low{t:Ab}(h:t.new B w)(hB:B'<=B):t.new B' w:=⟨h.1.low hB,h.2.1.low hB,h.2.2.1.low hB,h.2.2.2.low hB⟩
theorem As{cs:Array Value}(hb:Ah w P (.cells cs t))(ht:t≠117/\t≠2/\t≠9)(v:Value):En w (w.setCell ⟨P,i,none⟩ v):=by
 refine⟨by rw[nblk_setCell];exact Nat.le_refl _,fun k ck tk hk hh=>blk_setCell_other _ _ _ _ (fun e=>?_)⟩;dsimp only at e;unfold Ah at hb;rw[e]at hk;rw[hk]at hb;simp only[Option.some.injEq,Obj.cells.injEq,and_true]at hb;rcases hh with h|h|h
 ·exact ht.1 (hb.2.symm.trans h)
 ·exact ht.2.1 (hb.2.symm.trans h)
 ·exact ht.2.2 (hb.2.symm.trans h)
theorem Dn.set{l:List Ae}{cs:Array Value}(h:Dn w B v l)(hb:Ah w P (.cells cs t))(ht:t≠57)(u:Value):Dn (w.setCell ⟨P,i,none⟩ u) B v l:=by
 refine⟨h.1,?_⟩;rcases h.2 with hn|⟨g,cap,cur,hv,hbg,hg,rest⟩
 ·exact .inl hn
 ·refine .inr ⟨g,cap,cur,hv,hbg,?_,rest⟩;have hh:Ah w g (.cells cur 57):=hg;refine hh.other (fun e=>?_) u;unfold Ah at hb hh;rw[e,hh]at hb;simp only[Option.some.injEq,Obj.cells.injEq,and_true]at hb;exact ht hb.2.symm
theorem AO.set{l:List Ab}{cs:Array Value}(h:AO w B v l)(hb:Ah w P (.cells cs t))(ht:t≠63)(u:Value):AO (w.setCell ⟨P,i,none⟩ u) B v l:=by
 refine⟨h.1,?_⟩;rcases h.2 with hn|⟨g,cap,cur,hv,hbg,hg,rest⟩
 ·exact .inl hn
 ·refine .inr ⟨g,cap,cur,hv,hbg,?_,rest⟩;have hh:Ah w g (.cells cur 63):=hg;refine hh.other (fun e=>?_) u;unfold Ah at hb hh;rw[e,hh]at hb;simp only[Option.some.injEq,Obj.cells.injEq,and_true]at hb;exact ht hb.2.symm
structure By(w:World)(B:Nat)(vt vo:Value)(lt:List Ae)(lo:List Ab):Prop where
 t:Dn w B vt lt
 o:AO w B vo lo
 tn:∀x∈lt,x.new B w
 on:∀x∈lo,x.new B w
 tc:∀x∈lt,x.own.n<=x.own.k/\x.own.k<=maxLen
 oc:∀x∈lo,x.jA.n<=x.jA.k/\x.jA.k<=maxLen
theorem By.below(h:By w B vt vo lt lo)(hb:Below w w w'):By w' B vt vo lt lo:=
 ⟨h.t.below hb,h.o.below hb,fun x hx=>(h.tn x hx).keeps (C9.of_below hb).l,fun x hx=>(h.on x hx).keeps (C9.of_below hb).l,h.tc,h.oc⟩
theorem By.base(h:By w B vt vo lt lo)(hB:B'<=B):By w B' vt vo lt lo:=⟨h.t.base hB,h.o.base hB,fun x hx=>(h.tn x hx).low hB,fun x hx=>(h.on x hx).low hB,h.tc,h.oc⟩
theorem By.set{cs:Array Value}(h:By w B vt vo lt lo)(hb:Ah w P (.cells cs t))(ht:t=27∨t=32)(u:Value):By (w.setCell ⟨P,i,none⟩ u) B vt vo lt lo:=by
 have k:=As (i:=i) hb (by rcases ht with rfl|rfl<;>decide) u;exact⟨h.t.set hb (by rcases ht with rfl|rfl<;>decide) u,h.o.set hb (by rcases ht with rfl|rfl<;>decide) u,fun x hx=>(h.tn x hx).keeps k,fun x hx=>(h.on x hx).keeps k,h.tc,h.oc⟩
theorem Ae.new.at{t:Ae}(h:t.new B w):t.at w:=⟨h.1.1,h.2.1.1,h.2.2.1⟩
def Cp(ta:Option Addr)(ca:Nat)(oa:Option Addr)(co:Nat)(lt:List Ae)(lo:List Ab):Ax:=⟨ta,lt.length,ca,AY lt,oa,lo.length,co,Aa lo⟩
theorem By.at{ca co:Nat}{ta oa:Option Addr}(h:By w B (.slice ta lt.length ca) (.slice oa lo.length co) lt lo)(h1:lt.length<=1048576)(h2:lo.length<=1048576)(h3:∀x∈lo,x.data.size<=maxLen):(Cp ta ca oa co lt lo).at w:=
 ⟨Nat.le_trans h1 (by unfold maxLen;omega),Nat.le_trans h2 (by unfold maxLen;omega),h.t.lies (fun x hx=>(h.tn x hx).at),h.o.lies (fun x hx=>⟨(h.on x hx).1.1,(h.on x hx).2.1.1,(h.on x hx).2.2.1.1,(h.on x hx).2.2.2.1,h3 x hx⟩)⟩
theorem By.addT{vt':Value}{x:Ae}(h:By w B vt vo lt lo)(ho:Dn w' B vt' (lt++[x]))(hg:w.grownBy w' vt.ownBlock)(hx:x.new B w)(hc:x.own.n<=x.own.k/\x.own.k<=maxLen):By w' B vt' vo (lt++[x]) lo/\C9 w w':=by
 have kk:C9 w w':=⟨hg.size,fun k cs t hk h1 _=>hg.block k (Array.getElem?_eq_some_iff.1 hk).1 (fun e=>by
  rcases h.t.2 with⟨hv,_⟩|⟨g,cap,cur,hv,_,hgg,_⟩
  ·rw[hv]at e;cases e
  ·rw[hv]at e;cases e;rw[hgg]at hk;simp only[Option.some.injEq,Obj.cells.injEq,and_true]at hk;exact h1 hk.2.symm)⟩
 refine⟨⟨ho,?_,fun y hy=>?_,fun y hy=>(h.on y hy).keeps kk.l,fun y hy=>?_,h.oc⟩,kk⟩
 ·refine⟨h.o.1,?_⟩;rcases h.o.2 with hn|⟨g,cap,cur,hv,hbg,hgg,rest⟩
  ·exact .inl hn
  ·refine .inr ⟨g,cap,cur,hv,hbg,?_,rest⟩;refine(hg.block g (Array.getElem?_eq_some_iff.1 hgg).1 (fun e=>?_)).trans hgg;rcases h.t.2 with⟨hv,_⟩|⟨g',cap',cur',hv',_,hgg',_⟩
   ·rw[hv]at e;cases e
   ·rw[hv']at e;cases e;rw[hgg']at hgg;simp at hgg
 ·rcases List.mem_append.1 hy with hy|hy
  ·exact(h.tn y hy).keeps kk.l
  ·rw[List.mem_singleton.1 hy];exact hx.keeps kk.l
 ·rcases List.mem_append.1 hy with hy|hy
  ·exact h.tc y hy
  ·rw[List.mem_singleton.1 hy];exact hc
theorem By.addO{vo':Value}{x:Ab}(h:By w B vt vo lt lo)(ho:AO w' B vo' (lo++[x]))(hg:w.grownBy w' vo.ownBlock)(hx:x.new B w)(hc:x.jA.n<=x.jA.k/\x.jA.k<=maxLen):By w' B vt vo' lt (lo++[x])/\C9 w w':=by
 have kk:C9 w w':=⟨hg.size,fun k cs t hk _ h1=>hg.block k (Array.getElem?_eq_some_iff.1 hk).1 (fun e=>by
  rcases h.o.2 with⟨hv,_⟩|⟨g,cap,cur,hv,_,hgg,_⟩
  ·rw[hv]at e;cases e
  ·rw[hv]at e;cases e;rw[hgg]at hk;simp only[Option.some.injEq,Obj.cells.injEq,and_true]at hk;exact h1 hk.2.symm)⟩
 refine⟨⟨?_,ho,fun y hy=>(h.tn y hy).keeps kk.l,fun y hy=>?_,h.tc,fun y hy=>?_⟩,kk⟩
 ·refine⟨h.t.1,?_⟩;rcases h.t.2 with hn|⟨g,cap,cur,hv,hbg,hgg,rest⟩
  ·exact .inl hn
  ·refine .inr ⟨g,cap,cur,hv,hbg,?_,rest⟩;refine(hg.block g (Array.getElem?_eq_some_iff.1 hgg).1 (fun e=>?_)).trans hgg;rcases h.o.2 with⟨hv,_⟩|⟨g',cap',cur',hv',_,hgg',_⟩
   ·rw[hv]at e;cases e
   ·rw[hv']at e;cases e;rw[hgg']at hgg;simp at hgg
 ·rcases List.mem_append.1 hy with hy|hy
  ·exact(h.on y hy).keeps kk.l
  ·rw[List.mem_singleton.1 hy];exact hx.keeps kk.l
 ·rcases List.mem_append.1 hy with hy|hy
  ·exact h.oc y hy
  ·rw[List.mem_singleton.1 hy];exact hc
end Go.Proofs.YtefoofaocbjdoaaGreatDoor
