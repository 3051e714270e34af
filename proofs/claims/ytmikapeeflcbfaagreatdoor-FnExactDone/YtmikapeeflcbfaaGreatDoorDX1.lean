import Derived.Test.YtmikapeeflcbfaaGreatDoorZ38
import Derived.Deep.RegionHeld3
set_option maxRecDepth 100000
set_option maxHeartbeats 16000000
namespace Go.Proofs.YtmikapeeflcbfaaGreatDoor
open Go Go.RowKit Go.Deep Go.Maps Go.Proofs.Tryz
theorem Ah.drewX{W:World}{P:Nat}{o:Obj}(h:Ah W P o):Ah W.drew P o:=h
theorem cell_far{W:World}{P b o i:Nat}{v x:Value}(hne:b≠P)(h:W.cell? ⟨b,o,none⟩=some x):(W.setCell ⟨P,i,none⟩ v).cell? ⟨b,o,none⟩=some x:=
 (World.cell?_of_block (a:=⟨b,o,none⟩) (Below.heap_setCell _ _ _ _ hne)).trans h
theorem Ec.but{w w':World}{B P:Nat}{cs:Array Value}{vt vo:Value}{lt:List Ac}{lo:List Ab}(h:Ec w B vt vo lt lo)(t:AH (fun b=>b=P) w w')(hP:Ah w P (.cells cs 36)):Ec w' B vt vo lt lo:=by
 have no:∀{b t m:Nat}{F:Nat->Value},w.rowIs b t m F->t≠36->¬b=P:=fun{b t m F} hr ht e=>by
  subst e;obtain⟨c,h1,_⟩:=hr;have hP':w.heap[b]? =some (.cells cs 36 (0,0)):=hP;rw[h1]at hP';simp only[Option.some.injEq,Obj.cells.injEq,and_true]at hP';exact ht hP'.2
 have own:∀{ty sz n:Nat}{v:Value}{cs:List Value},ty≠36->w.ownsRow B ty sz v n cs->w'.ownsRow B ty sz v n cs:=fun{ty sz n v c2} ht ho=>by
  refine⟨ho.1,?_⟩;rcases ho.2 with h1|⟨g,cap,cur,hv,hB,hg,r⟩
  ·exact .inl h1
  ·refine .inr ⟨g,cap,cur,hv,hB,(t.block g (Array.getElem?_eq_some_iff.1 hg).1 (fun e=>?_)).trans hg,r⟩;subst e;have hP':w.heap[g]? =some (.cells cs 36 (0,0)):=hP;rw[hg]at hP';simp only[Option.some.injEq,Obj.cells.injEq,and_true]at hP';exact ht hP'.2
 have kc:∀{c:Al},c.new B w->c.new B w':=fun hc=>hc.jD t (fun b hb=>by obtain⟨_,_,m,F,r⟩:=hc.jG hb;exact no r (by decide));have ki:∀{c:Av},c.new B w->c.new B w':=fun hc=>hc.jD t (fun b hb=>by obtain⟨_,_,m,F,r⟩:=hc.jG hb;exact no r (by decide));have ks:∀{c:Ao},c.jH B w->c.jH B w':=fun hc=>hc.jD t (fun b hb=>by obtain⟨_,_,m,F,r⟩:=hc.jG hb;exact no r (by decide));exact⟨own (by decide) h.t,own (by decide) h.o,fun x hx=>⟨kc (h.tn x hx).1,kc (h.tn x hx).2.1,ki (h.tn x hx).2.2⟩,fun x hx=>⟨kc (h.on x hx).1,ks (h.on x hx).2.1,ki (h.on x hx).2.2.1,kc (h.on x hx).2.2.2⟩⟩
def Ym(k:Ar)(s:Ak)(w2:World)(p c x:Value)(wc:World):Prop:=∃(P:Nat) (lt:List Ac) (lo:List Ab) (ta oa:Option Addr) (ca co:Nat) (c0:Int) (tx:ByteArray),p= .pointer (some ⟨P,0,none⟩)/\c= .int .i64 c0/\x= .string tx/\w2.heap.size<=P/\Ah wc P (.cells #[.slice ta lt.length ca,.slice oa lo.length co] 36)/\Ec wc w2 (.slice ta lt.length ca) (.slice oa lo.length co) lt lo/\FJ k s c0 tx lt lo/\Below w2 w2 wc
theorem Rk{k:Ar}{s:Ak}{w2 W:World}{P:Nat}{x y:Value}{lt:List Ac}{lo:List Ab}{ta oa:Option Addr}{ca co:Nat}{c0:Int}{tx:ByteArray}(Z:Ah W P (.cells #[x,y] 36))(hP:w2.heap.size<=P)(ks:Ec W w2 (.slice ta lt.length ca) (.slice oa lo.length co) lt lo)(r:FJ k s c0 tx lt lo)(E:Below w2 w2 W):
 Ym k s w2 (.pointer (some ⟨P,0,none⟩)) (.int .i64 c0) (.string tx) ((W.setCell ⟨P,0,none⟩ (.slice ta lt.length ca)).setCell ⟨P,1,none⟩ (.slice oa lo.length co)):=
 ⟨P,lt,lo,ta,oa,ca,co,c0,tx,rfl,rfl,rfl,hP,(Z.jB (i:=0) _).jB (i:=1) _,ks.but (((AH.refl (fun b=>b=P) W).put rfl 0 _).put rfl 1 _) Z,r,(E.setCell hP _).setCell hP _⟩
theorem Ra{k:Ar}{s:Ak}{w2 W:World}{lt:List Ac}{lo:List Ab}{ta oa:Option Addr}{ca co:Nat}{c0:Int}{tx:ByteArray}(ks:Ec W w2 (.slice ta lt.length ca) (.slice oa lo.length co) lt lo)(r:FJ k s c0 tx lt lo)(E:Below w2 w2 W):
 Ym k s w2 (.pointer (some ⟨W,0,none⟩)) (.int .i64 c0) (.string tx) (W.alloc (.cells #[.slice ta lt.length ca,.slice oa lo.length co] 36)):=
 ⟨W,lt,lo,ta,oa,ca,co,c0,tx,rfl,rfl,rfl,E.size,Ah.new _ _,ks.below ((Below.refl _ W).alloc (Nat.le_refl _) _),r,E.alloc E.size _⟩
theorem MD(E:Nat->Addr)(k:Ar)(s:Ak)(w:World)(hk:k.at w)(hw:k.wfs)(hs:s.at w)(he:Jj w E)(hE:UR w E)(tab:P8 w):
 Calls prog 3 #[.agg #[.slice k.ta k.tn k.tk,.slice k.oa k.on k.ok],.agg #[s.th,s.kind,s.id,s.to,s.cat,.string s.data,s.b1,.slice s.c1.a s.c1.n s.c1.k,s.b2,.slice s.c2.a s.c2.n s.c2.k]] w fun e w'=>e= .returned (.bool true)/\Below w w w':=by
 have n2:Na #[s.th,s.kind,s.id,s.to,s.cat,.string s.data,s.b1,.slice s.c1.a s.c1.n s.c1.k,s.b2,.slice s.c2.a s.c2.n s.c2.k]:=⟨⟩;have n4:No (.cells #[.slice k.ta k.tn k.tk,.slice k.oa k.on k.ok] 25):=⟨⟩;have n6:Nw ((w.alloc n4).alloc (.cells n2 30)):=⟨⟩;have b0:Below w w n6:=((Below.refl _ w).alloc (Nat.le_refl _) _).alloc (by simp) _;have a0:Ah n6 w n4:=(Ah.new w _).alloc _;have p0:Ah n6 (w.heap.size+1) (.cells n2 30):=by
  have h:=Ah.new (w.alloc n4) (.cells n2 30);rw[show(w.alloc n4).heap.size=w.heap.size+1 from by simp]at h;exact h
 have HK:=hid hk;have HW:=hid hw;have HS:=hid hs;have HE:=hid he;have HB:=hid hE;have HT:=hid tab;have h14:14<=w.heap.size:=by have:=hE.2.2.2;omega
 have C1:=hid (Qm k 1048576 _ (by omega) (by omega) (hk.below b0));unfold Ar.val at C1;have B0:=hid b0;have A0:=hid a0;have P0:=hid p0;obtain⟨x0,x1⟩:=a0.two;clear hk hw hs he hE tab b0 a0 p0;go_enter func3,ntmps3
 go_wp2_with fail
 clear x0 x1;generalize (n6:World)=w0 at *;refine C1.out.mono ?_;rintro e w1 ⟨r,rfl,hr,hb1⟩;have B1:=hid (Ae B0 hb1);have A1:=hid (A0.out.below hb1);have P1:=hid (P0.out.below hb1);clear C1 A0 P0 B0 hb1;rcases hr with rfl|⟨r0,r1,hsm⟩
 ·go_wp2;go_ret;exact⟨rfl,B1⟩
 have KS:=hid hsm;clear hsm;have r2:¬r<0:=by omega
 have C2:=hid (Xj s r w1 (HS.out.below B1) r0 r1);obtain⟨y0,y1,y2,y3,y4,y5,y6,y7,y8,y9⟩:=P1.out.jE;go_wp2_with fail
 clear y0 y1 y2 y3 y4 y5 y6 y7 y8 y9;refine C2.out.mono ?_;rintro e w2 ⟨q,rfl,hq,hb2⟩;have B2:=hid (Ae B1 hb2);have A2:=hid (A1.out.below hb2);have P2:=hid (P1.out.below hb2);clear C2 A1 P1 B1 hb2 r0 r1 r2;rcases hq with rfl|⟨q0,q1,qd,qn1,qn2⟩
 ·go_wp2;go_ret;exact⟨rfl,B2⟩
 have q2:¬q<0:=by omega
 clear q0 q1;have SPEC:Hid (∀(l:Ar) (t:Ak) (W:World),k.same l->l.row W->s.same t->t.at W->Calls prog 6 #[.agg #[.slice l.ta l.tn l.tk,.slice l.oa l.on l.ok],.agg #[t.th,t.kind,t.id,t.to,t.cat,.string t.data,t.b1,.slice t.c1.a t.c1.n t.c1.k,t.b2,.slice t.c2.a t.c2.n t.c2.k]] W fun e w'=>bv k s W e w'):=hid (fun l t W hl hr ht ha=>(Tu l W (hr.at (hl.small KS)) (fun i hi=>((hl.wfs HW) i hi).1) t ha).mono (fun e w' h=>by
  obtain⟨lt,lo,ta,oa,ca,co,c,tx,h1,h2,h3,h4⟩:=h;exact⟨lt,lo,ta,oa,ca,co,c,tx,h1,h2,h3.of hl ht,h4⟩))
 have IMPL:Hid (∀(l:Ar) (t:Ak) (W:World),k.same l->l.ok=l.on->l.row W->s.same t->t.at W->Below w w W->Calls prog 9 #[.agg #[.slice l.ta l.tn l.tk,.slice l.oa l.on l.ok],.agg #[t.th,t.kind,t.id,t.to,t.cat,.string t.data,t.b1,.slice t.c1.a t.c1.n t.c1.k,t.b2,.slice t.c2.a t.c2.n t.c2.k]] W fun e w'=>bI k s W e w'):=hid (fun l t W hl ho hr ht ha hb=>(Qo E l t W (hr.at (hl.small KS)) ha (by rw[ho];exact Nat.le_refl _) (hl.wfs HW) (HE.out.below h14 hb) (HB.out.below hb) (HT.out.below hb)).mono (fun e w' h=>by
  obtain⟨lt,lo,ta,oa,ca,co,c,tx,h1,h2,h5,h3,h4⟩:=h.ans;exact⟨lt,lo,ta,oa,ca,co,c,tx,h1,h2,h5,h3.of hl ht,h4⟩))
 have n8:Na #[.agg #[.slice k.ta k.tn k.tk,.slice k.oa k.on k.ok]]:=⟨⟩;have TOK:Hid (∀W,Below w w W->Calls prog 7 n8 W fun e w'=>∃l:Ar,e= .returned (.agg #[.slice l.ta l.tn l.tk,.slice l.oa l.on l.ok])/\k.same l/\l.ok=l.on/\(l.row w'/\l.since W)/\Below W W w'):=hid (fun W hb=>Qt k W (HK.out.below hb) KS);have TOS:Hid (∀W,Below w w W->Calls prog 8 #[.agg n2] W fun e w'=>∃t:Ak,e= .returned (.agg #[t.th,t.kind,t.id,t.to,t.cat,.string t.data,t.b1,.slice t.c1.a t.c1.n t.c1.k,t.b2,.slice t.c2.a t.c2.n t.c2.k])/\s.same t/\t.at w'/\t.room W w' w'/\Below W W w'):=hid (fun W hb=>WH s W (HS.out.below hb) qn1 qn2);have aW:=A2.out.lt;have pW:=P2.out.lt;have HtK:Hid (∀W,Below w2 w2 W->Calls prog 7 n8 W fun e w'=>∃l:Ar,e= .returned (.agg #[.slice l.ta l.tn l.tk,.slice l.oa l.on l.ok])/\k.same l/\l.row w'/\Below w2 w2 w'/\Below W W w'):=hid (fun W hW=>(TOK W (Ae B2 hW)).mono (fun e w' h=>by
  obtain⟨l,h1,h2,h3,h4,h5⟩:=h;exact⟨l,h1,h2,h4.1,Ae hW h5,h5⟩))
 have HtS:Hid (∀W,Below w2 w2 W->Calls prog 8 #[.agg n2] W fun e w'=>∃t:Ak,e= .returned (.agg #[t.th,t.kind,t.id,t.to,t.cat,.string t.data,t.b1,.slice t.c1.a t.c1.n t.c1.k,t.b2,.slice t.c2.a t.c2.n t.c2.k])/\s.same t/\t.at w'/\Below w2 w2 w'/\Below W W w'):=hid (fun W hW=>(TOS W (Ae B2 hW)).mono (fun e w' h=>by
  obtain⟨t,h1,h2,h3,h4,h5⟩:=h;exact⟨t,h1,h2,h3,Ae hW h5,h5⟩))
 have HD:Hid (∀(l:Ar) (t:Ak) (W:World),k.same l->l.row W->s.same t->t.at W->Below w2 w2 W->Calls prog 6 #[.agg #[.slice l.ta l.tn l.tk,.slice l.oa l.on l.ok],.agg #[t.th,t.kind,t.id,t.to,t.cat,.string t.data,t.b1,.slice t.c1.a t.c1.n t.c1.k,t.b2,.slice t.c2.a t.c2.n t.c2.k]] W fun e w'=>∃(lt:List Ac) (lo:List Ab) (ta oa:Option Addr) (ca co:Nat) (c:Int) (tx:ByteArray),e= .returned (.tuple #[.agg #[.slice ta lt.length ca,.slice oa lo.length co],.int .i64 c,.string tx])/\Ec w' w2 (.slice ta lt.length ca) (.slice oa lo.length co) lt lo/\FJ k s c tx lt lo/\Below w2 w2 w'/\Below W W w'):=hid (fun l t W h1 h2 h3 h4 hW=>(SPEC l t W h1 h2 h3 h4).mono (fun e w' h=>by
  obtain⟨lt,lo,ta,oa,ca,co,c,tx,g1,g2,g3,g4⟩:=h;exact⟨lt,lo,ta,oa,ca,co,c,tx,g1,g2.base hW.size,g3,Ae hW g4,g4⟩))
 have HE00:Hid (Below w2 w2 w2.drew):=hid (Below.refl _ _).drew;have HE0:Hid (∀o,Below w2 w2 (w2.alloc o).drew):=hid (fun o=>((Below.refl _ _).alloc (Nat.le_refl _) o).drew);obtain⟨x0,x1⟩:=A2.out.two;obtain⟨y0,y1,y2,y3,y4,y5,y6,y7,y8,y9⟩:=P2.out.jE;go_upto_region 8 with fail
 go_cut[6,7,8] (fun p c x wc=>Ym k s w2 p c x wc)
 case first=>
  go_region_held3(fun w'=>w'.cell? ⟨w,0,none⟩=some (.slice k.ta k.tn k.tk)/\w'.cell? ⟨w,1,none⟩=some (.slice k.oa k.on k.ok)/\w'.cell? ⟨w.heap.size+1,0,none⟩=some (.int .i64 s.th)/\w'.cell? ⟨w.heap.size+1,1,none⟩=some (.int .i64 s.kind)/\w'.cell? ⟨w.heap.size+1,2,none⟩=some (.int .i64 s.id)/\w'.cell? ⟨w.heap.size+1,3,none⟩=some (.int .i64 s.to)/\w'.cell? ⟨w.heap.size+1,4,none⟩=some (.int .i64 s.cat)/\w'.cell? ⟨w.heap.size+1,5,none⟩=some (.string s.data)/\w'.cell? ⟨w.heap.size+1,6,none⟩=some (.int .i64 s.b1)/\w'.cell? ⟨w.heap.size+1,7,none⟩=some (.slice s.c1.a s.c1.n s.c1.k)/\w'.cell? ⟨w.heap.size+1,8,none⟩=some (.int .i64 s.b2)/\w'.cell? ⟨w.heap.size+1,9,none⟩=some (.slice s.c2.a s.c2.n s.c2.k)) (first|(with_reducible refine⟨cell_far (by omega) (cell_far (by omega) ?_),cell_far (by omega) (cell_far (by omega) ?_),cell_far (by omega) (cell_far (by omega) ?_),cell_far (by omega) (cell_far (by omega) ?_),cell_far (by omega) (cell_far (by omega) ?_),cell_far (by omega) (cell_far (by omega) ?_),cell_far (by omega) (cell_far (by omega) ?_),cell_far (by omega) (cell_far (by omega) ?_),cell_far (by omega) (cell_far (by omega) ?_),cell_far (by omega) (cell_far (by omega) ?_),cell_far (by omega) (cell_far (by omega) ?_),cell_far (by omega) (cell_far (by omega) ?_)⟩<;>first|assumption|go_keep)|go_keep)
   (first
     |(go_at_call 6;refine(HD l1 t1 _ SL1 ?hB ST1 ?hC ?hA).mono ?_;(case hA=>first|with_reducible exact E2|with_reducible exact E2.alloc E2.size _);(case hB=>first|with_reducible exact R1.below hb2|with_reducible exact(R1.below ((Below.refl _ _).alloc (Nat.le_refl _) _)).below hb2|with_reducible exact(R1.below hb2).below ((Below.refl _ _).alloc (Nat.le_refl _) _));(case hC=>first|with_reducible exact T1|with_reducible exact T1.below ((Below.refl _ _).alloc (Nat.le_refl _) _));rintro e v3 ⟨lt,lo,ta,oa,ca,co,c,tx,rfl,KF,RT,E3,hb3⟩;obtain⟨p0,p1⟩:=(A2.out.below E3).two;obtain⟨j0,j1,j2,j3,j4,j5,j6,j7,j8,j9⟩:=(P2.out.below E3).jE;have e3:=E3.size;(first|(with_reducible (have Zk:=(Ah.new v2 (.cells #[.slice none 0 0,.slice none 0 0] 36)).below hb3);obtain⟨k1,k2⟩:=Zk.two;have kf0:=Zk.jC 0;have kf1:=Zk.jC 1)|(with_reducible (have Zk:=((Ah.new v1 (.cells #[.slice none 0 0,.slice none 0 0] 36)).below hb2).below hb3);obtain⟨k1,k2⟩:=Zk.two;have kf0:=Zk.jC 0;have kf1:=Zk.jC 1)|(with_reducible (have Zk:=(((Ah.new w2 (.cells #[.slice none 0 0,.slice none 0 0] 36)).drewX.below hb1).below hb2).below hb3);obtain⟨k1,k2⟩:=Zk.two;have kf0:=Zk.jC 0;have kf1:=Zk.jC 1)|skip))
     |(go_at_call 8;refine(HtS _ ?hB).mono ?_;(case hB=>first|with_reducible exact E1|with_reducible exact E1.alloc E1.size _);rintro e v2 ⟨t1,rfl,ST1,T1,E2,hb2⟩;obtain⟨p0,p1⟩:=(A2.out.below E2).two;obtain⟨j0,j1,j2,j3,j4,j5,j6,j7,j8,j9⟩:=(P2.out.below E2).jE;have e2:=E2.size)
     |(go_at_call 7;refine(HtK _ ?hB).mono ?_;(case hB=>first|exact HE00.out|exact HE0.out _);rintro e v1 ⟨l1,rfl,SL1,R1,E1,hb1⟩;obtain⟨p0,p1⟩:=(A2.out.below E1).two;obtain⟨j0,j1,j2,j3,j4,j5,j6,j7,j8,j9⟩:=(P2.out.below E1).jE;have e1:=E1.size))
  all_goals
   clear HtK HtS HD SPEC IMPL TOK TOS;go_wp2_with fail
   go_meet;case rel=>
    first|exact Rk Zk (by omega) KF RT E3|exact Ra KF RT E3
 case rest=>
 obtain⟨P0,lt,lo,ta,oa,ca,co,c0,tx,rfl,rfl,rfl,P0l,bp,kf,rt,e3⟩:=hcut;generalize wc=w3 at *;have B3:=hid (Ae B2 e3);have A3:=hid (A2.out.below e3);have P3:=hid (P2.out.below e3);have Y3:=hid bp;have K3:=hid kf;have R3:=hid rt;have F3:=hid rt.fit;have z3:w.heap.size+1<w3.heap.size:=P3.out.lt;have z3':P0<w3.heap.size:=bp.lt;clear bp kf rt e3 A2 P2 B2 HtK HtS HD SPEC HE00 HE0 x0 x1 y0 y1 y2 y3 y4 y5 y6 y7 y8 y9 aW pW P0l q2;obtain⟨x0,x1⟩:=A3.out.two;have C4:=hid (TOK.out w3 B3);go_wp2_with fail
 clear x0 x1;refine C4.out.mono ?_;rintro e w4 ⟨l2,rfl,s2,c2,⟨row2,sin2⟩,hb4⟩;have n9:Na #[.slice l2.ta l2.tn l2.tk,.slice l2.oa l2.on l2.ok]:=⟨⟩;have n3:No (.cells n9 36):=⟨⟩;have bx:Below w4 w4 (w4.alloc n3):=(Below.refl _ w4).alloc (Nat.le_refl _) _;have E4:=hid (Ae hb4 bx);have X4:=hid (Ah.new w4 n3);have R4:=hid (row2.below bx);have ROOM:=hid (row2.room (s2.small KS) sin2);have ROOM4:Hid (l2.room w3 w4 (w4.alloc n3)):=hid ⟨ROOM.out.1.mkL (Ib.of_below bx),ROOM.out.2.mkL (Ib.of_below bx)⟩;have S2:=hid s2;have O2:=hid c2;have P4:=hid (P3.out.below E4);have B4:=hid (Ae B3 E4);have z4:w3.heap.size<=w4.heap.size:=hb4.size;have z4':(w4.alloc n3).heap.size=w4.heap.size+1:=by simp
 have C5:=hid (TOS.out (w4.alloc n3) B4);obtain⟨y0,y1,y2,y3,y4,y5,y6,y7,y8,y9⟩:=P4.out.jE;clear C4 hb4 bx row2 sin2 s2 c2 ROOM;go_wp2_with fail
 clear y0 y1 y2 y3 y4 y5 y6 y7 y8 y9;generalize w4.alloc n3=W4 at *;refine C5.out.mono ?_;rintro e w5 ⟨t2,rfl,st2,at2,room2,hb5⟩;have n1:Na #[t2.th,t2.kind,t2.id,t2.to,t2.cat,.string t2.data,t2.b1,.slice t2.c1.a t2.c1.n t2.c1.k,t2.b2,.slice t2.c2.a t2.c2.n t2.c2.k]:=⟨⟩;have n7:Nw (w5.alloc (.cells n1 44)):=⟨⟩;have by5:Below w5 w5 n7:=(Below.refl _ w5).alloc (Nat.le_refl _) _;have E5:=hid (Ae hb5 by5);have V5:=hid (Ah.new w5 (.cells n1 44));have X5:=hid (X4.out.below E5);have R5:=hid (R4.out.below E5);have ROOM5:Hid (l2.room w3 w4 n7):=hid ⟨ROOM4.out.1.mkL (Ib.of_below E5),ROOM4.out.2.mkL (Ib.of_below E5)⟩;have RS5:Hid (t2.room W4 w5 n7):=hid (room2.any (Ib.of_below (lo:=0) (hi:=0) by5).toMk);have T2:=hid st2;have AT2:=hid (at2.below by5);have L5:=hid (Ae E4 E5);have B5:=hid (Ae B4 E5);have z5:W4.heap.size<=w5.heap.size:=hb5.size;have z5':(n7:World).heap.size=w5.heap.size+1:=by simp
 have C6:=hid (IMPL.out l2 t2 n7 S2 O2 R5 T2 AT2 B5);obtain⟨x0,x1⟩:=X5.out.two;obtain⟨y0,y1,y2,y3,y4,y5,y6,y7,y8,y9⟩:=V5.out.jE;clear C5 hb5 by5 room2 st2 at2 ROOM4 R4 X4 E4 E5 B4 P4;go_wp2_with fail
 clear x0 x1 y0 y1 y2 y3 y4 y5 y6 y7 y8 y9;generalize w5.alloc (.cells n1 44)=W5 at *;refine C6.out.mono ?_;rintro e w6 ⟨gt,go,ga,ha,gc,hc,c6,tx6,rfl,kf6,ap6,rt6,hb6⟩;obtain⟨ec,et,eqt,eqo⟩:=Lk rt6 R3.out;subst ec et;have n5:Na #[.slice ga gt.length gc,.slice ha go.length hc]:=⟨⟩;have bz:Below w6 w6 (w6.alloc (.cells n5 36)):=(Below.refl _ w6).alloc (Nat.le_refl _) _;have e6:=Ae hb6 bz;have Z6:=hid (Ah.new w6 (.cells n5 36));have K6:=hid (kf6.below bz);have F6:=hid rt6.fit;have AP:=hid ap6;have EQ:Hid (∀W,Ec W W5 (.slice ga gt.length gc) (.slice ha go.length hc) gt go->Below w3 w3 W->Calls prog 10 #[.agg n5,.agg #[.slice ta lt.length ca,.slice oa lo.length co]] W fun e w'=>e= .returned (.bool true)/\Below W W w'):=hid (fun W h hb=>Zb h F6 (K3.out.below hb) F3 eqt eqo);have L6:=hid (Ae L5 e6);have N6:=hid e6;have B6:=hid (Ae B5 e6);have z6:W5.heap.size<=w6.heap.size:=hb6.size;have C7:=hid (EQ.out _ K6 L6);obtain⟨x0,x1⟩:=(Y3.out.below L6).two;obtain⟨x2,x3⟩:=Z6.out.two;clear C6 hb6 bz e6 kf6 ap6 rt6 eqt eqo;go_wp2_with fail
 clear x0 x1 x2 x3;generalize w6.alloc (.cells n5 36)=W6 at *;refine C7.out.mono ?_;rintro e w7 ⟨rfl,hb7⟩;have Z7:=hid (Z6.out.below hb7);have K7:=hid (K6.out.below hb7);have L7:=hid (Ae L6 hb7);have N7:=hid (Ae N6 hb7);have B7:=hid (Ae B6 hb7);clear C7 hb7 Z6 K6 L6 N6 B6;have Xd:Ah w7.drew w4 n3:=X5.out.below N7.out.drew;have n15:Na #[.slice k.ta k.tn k.tk,.slice k.oa k.on k.ok]:=⟨⟩;have Ad:Ah w7.drew w (.cells n15 25):=A3.out.below L7.out.drew;have C8:=hid (TOK.out w7.drew B7.out.drew);have C9:Hid (∀(m:Ar) (W:World),Below w7.drew.heap.size w7.drew W->k.same m->m.row W->Calls prog 10 #[.agg n9,.agg #[.slice m.ta m.tn m.tk,.slice m.oa m.on m.ok]] W fun e w'=>e= .returned (.bool true)/\Below W W w'):=hid (fun m W hW hm hr=>MV l2 m W ((show l2.row w7.drew from R5.out.below N7.out.drew).below hW |>.at (S2.out.small KS)) (hr.at (hm.small KS)) (S2.out.trans' hm));obtain⟨x0,x1⟩:=A3.out.below L7 |>.two;obtain⟨u0,u1⟩:=X5.out.below N7 |>.two;go_wp2_with fail
 go_region_held3(fun w'=>w'.cell? ⟨w4,0,none⟩=some (.slice l2.ta l2.tn l2.tk)/\w'.cell? ⟨w4,1,none⟩=some (.slice l2.oa l2.on l2.ok)/\w'.cell? ⟨w,0,none⟩=some (.slice k.ta k.tn k.tk)/\w'.cell? ⟨w,1,none⟩=some (.slice k.oa k.on k.ok)) (first|go_keep|(simp only[*,and_self]))
  (first
    |(go_at_call 7;refine C8.out.mono ?_;rintro e w8 ⟨l3,rfl,s3,c3,⟨row8,_⟩,hb8⟩;clear c3;obtain⟨p0,p1⟩:=(Ad.below hb8).two;obtain⟨q0,q1⟩:=(Xd.below hb8).two)
    |(go_at_call 10;refine(C9 l3 w8 hb8 s3 row8).mono ?_;rintro e w9 ⟨rfl,hb9⟩;obtain⟨i0,i1⟩:=((Ad.below hb8).below hb9).two;obtain⟨j0,j1⟩:=((Xd.below hb8).below hb9).two))
 have D9:Below w7 w7 w9:=Ae (Below.refl w7 w7).drew (Ae hb8 hb9);have Z9:=hid (Z7.out.below D9);have K9:=hid (K7.out.below D9);have L9:=hid (Ae L7 D9);have N9:=hid (Ae N7 D9);have B9:=hid (Ae B7 D9);clear p0 p1 q0 q1 i0 i1 j0 j1 x0 x1 u0 u1 Ad Xd C8 C9 hb8 hb9 row8 s3 D9 B7 K7 Z7 L7 N7;have Vd:Ah w9.drew w5 (.cells n1 44):=V5.out.below N9.out.drew;have Pd:Ah w9.drew (w.heap.size+1) (.cells #[s.th,s.kind,s.id,s.to,s.cat,.string s.data,s.b1,.slice s.c1.a s.c1.n s.c1.k,s.b2,.slice s.c2.a s.c2.n s.c2.k] 30):=P3.out.below L9.out.drew;have C8:=hid (TOS.out w9.drew B9.out.drew);have C9:Hid (∀(m:Ak) (W:World),Below w9.drew.heap.size w9.drew W->s.same m->m.at W->Calls prog 11 #[.agg n1,.agg #[m.th,m.kind,m.id,m.to,m.cat,.string m.data,m.b1,.slice m.c1.a m.c1.n m.c1.k,m.b2,.slice m.c2.a m.c2.n m.c2.k]] W fun e w'=>e= .returned (.bool true)/\Below W W w'):=hid (fun m W hW hm ha=>Yf t2 m W ((show t2.at w9.drew from AT2.out.below N9.out.drew).below hW) ha (T2.out.sym hm));obtain⟨y0,y1,y2,y3,y4,y5,y6,y7,y8,y9⟩:=P3.out.below L9 |>.jE;obtain⟨v0,v1,v2,v3,v4,v5,v6,v7,v8,v9⟩:=V5.out.below N9 |>.jE;go_wp2_with fail
 go_region_held3(fun w'=>w'.cell? ⟨w5,0,none⟩=some (.int .i64 t2.th)/\w'.cell? ⟨w5,1,none⟩=some (.int .i64 t2.kind)/\w'.cell? ⟨w5,2,none⟩=some (.int .i64 t2.id)/\w'.cell? ⟨w5,3,none⟩=some (.int .i64 t2.to)/\w'.cell? ⟨w5,4,none⟩=some (.int .i64 t2.cat)/\w'.cell? ⟨w5,5,none⟩=some (.string t2.data)/\w'.cell? ⟨w5,6,none⟩=some (.int .i64 t2.b1)/\w'.cell? ⟨w5,7,none⟩=some (.slice t2.c1.a t2.c1.n t2.c1.k)/\w'.cell? ⟨w5,8,none⟩=some (.int .i64 t2.b2)/\w'.cell? ⟨w5,9,none⟩=some (.slice t2.c2.a t2.c2.n t2.c2.k)/\w'.cell? ⟨w.heap.size+1,0,none⟩=some (.int .i64 s.th)/\w'.cell? ⟨w.heap.size+1,1,none⟩=some (.int .i64 s.kind)/\w'.cell? ⟨w.heap.size+1,2,none⟩=some (.int .i64 s.id)/\w'.cell? ⟨w.heap.size+1,3,none⟩=some (.int .i64 s.to)/\w'.cell? ⟨w.heap.size+1,4,none⟩=some (.int .i64 s.cat)/\w'.cell? ⟨w.heap.size+1,5,none⟩=some (.string s.data)/\w'.cell? ⟨w.heap.size+1,6,none⟩=some (.int .i64 s.b1)/\w'.cell? ⟨w.heap.size+1,7,none⟩=some (.slice s.c1.a s.c1.n s.c1.k)/\w'.cell? ⟨w.heap.size+1,8,none⟩=some (.int .i64 s.b2)/\w'.cell? ⟨w.heap.size+1,9,none⟩=some (.slice s.c2.a s.c2.n s.c2.k)) (first|go_keep|(simp only[*,and_self]))
  (first
    |(go_at_call 8;refine C8.out.mono ?_;rintro e w10 ⟨t3,rfl,s3,at3,_,hb10⟩;obtain⟨p0,p1,p2,p3,p4,p5,p6,p7,p8,p9⟩:=(Pd.below hb10).jE;obtain⟨q0,q1,q2,q3,q4,q5,q6,q7,q8,q9⟩:=(Vd.below hb10).jE)
    |(go_at_call 11;refine(C9 t3 w10 hb10 s3 at3).mono ?_;rintro e w11 ⟨rfl,hb11⟩;obtain⟨i0,i1,i2,i3,i4,i5,i6,i7,i8,i9⟩:=((Pd.below hb10).below hb11).jE;obtain⟨j0,j1,j2,j3,j4,j5,j6,j7,j8,j9⟩:=((Vd.below hb10).below hb11).jE))
 have D11:Below w9 w9 w11:=Ae (Below.refl w9 w9).drew (Ae hb10 hb11);have Z11:=hid (Z9.out.below D11);have K11:=hid (K9.out.below D11);have L11:=hid (Ae L9 D11);have N11:=hid (Ae N9 D11);have B11:=hid (Ae B9 D11);clear p0 p1 p2 p3 p4 p5 p6 p7 p8 p9 q0 q1 q2 q3 q4 q5 q6 q7 q8 q9 i0 i1 i2 i3 i4 i5 i6 i7 i8 i9 j0 j1 j2 j3 j4 j5 j6 j7 j8 j9 y0 y1 y2 y3 y4 y5 y6 y7 y8 y9 v0 v1 v2 v3 v4 v5 v6 v7 v8 v9 Vd Pd C8 C9 hb10 hb11 at3 s3 D11 B9 K9 Z9 L9 N9;have RM11:Hid (l2.room w3 w4 w11):=hid ⟨ROOM5.out.1.mkL (Ib.of_below N11),ROOM5.out.2.mkL (Ib.of_below N11)⟩;have n11:=N11.out.size;have C12:=hid (QG l2 w3 w4 w11 RM11 (by omega));unfold Ar.val at C12;obtain⟨x0,x1⟩:=(X5.out.below N11).two;go_wp2_with fail
 clear x0 x1;refine C12.out.mono ?_;rintro e w12 ⟨k12,rfl,k121,k122,m12⟩;have V12:Hid (Ah w12 w5 (.cells n1 44)):=hid ((m12.block _ (V5.out.below N11).lt (.inr (by omega))).trans (V5.out.below N11));have Z12:Hid (Ah w12 w6 (.cells n5 36)):=hid ((m12.block _ Z11.out.lt (.inr (by omega))).trans Z11);have K12:=hid (K11.out.keep m12.size (fun b h1 h2=>m12.block b h2 (.inr (by omega))));have L12:=hid (Mk.below L11 m12 (Nat.le_refl _));have B12:=hid (Mk.below B11 m12 (by omega));have RS12:Hid (t2.room W4 w5 w12):=hid ((RS5.out.any (Ib.of_below (lo:=0) (hi:=0) N11).toMk).any m12);have n12:=m12.size;clear C12 m12 RM11 Z11 K11 L11 N11 B11;have C13:=hid (Uk t2 W4 w5 k12 w12 RS12 (by omega) (by omega) (by omega));obtain⟨v0,v1,v2,v3,v4,v5,v6,v7,v8,v9⟩:=V12.out.jE;go_wp2_with fail
 clear v0 v1 v2 v3 v4 v5 v6 v7 v8 v9;refine C13.out.mono ?_;rintro e w13 ⟨k13,rfl,k131,m13⟩;have k13n:¬k13<0:=by omega
 have Z13:Hid (Ah w13 w6 (.cells n5 36)):=hid ((m13.block _ Z12.out.lt (.inr (by omega))).trans Z12);have K13:=hid (K12.out.keep m13.size (fun b h1 h2=>m13.block b h2 (.inr (by omega))));have L13:=hid (Mk.below L12 m13 (by omega));have B13:=hid (Mk.below B12 m13 (by omega));have n13:=m13.size;clear C13 m13 RS12 V12 Z12 K12 L12 B12;have C14:=hid (EQ.out w13 K13 L13);obtain⟨x0,x1⟩:=(Y3.out.below L13).two;obtain⟨x2,x3⟩:=Z13.out.two;go_wp2_with fail
 clear x0 x1 x2 x3;refine C14.out.mono ?_;rintro e w14 ⟨rfl,hb14⟩;have Z14:=hid (Z13.out.below hb14);have K14:=hid (K13.out.below hb14);have L14:=hid (Ae L13 hb14);have B14:=hid (Ae B13 hb14);have n14:=hb14.size;clear C14 hb14 Z13 K13 L13 B13;have C15:=hid (YI K14 AP F6 (by omega));obtain⟨x2,x3⟩:=Z14.out.two;go_wp2_with fail
 clear x2 x3;refine C15.out.mono ?_;rintro e w15 ⟨rfl,ma15,b15,bl15⟩;have kp:=XG F6.out;have kn:¬Ki gt go<0:=by omega
 have Z15:=hid (bl15 _ _ Z14);have MA15:=hid ma15;have L15:=hid (L14.out.trans (b15.mono (show w3.heap.size<=W5.heap.size by omega)));have B15:=hid (B14.out.trans (b15.mono (show w.heap.size<=W5.heap.size by omega)));have FE:=hid F6.out;clear C15 ma15 b15 bl15 Z14 K14 L14 B14;have C16:Hid (∀W,FW W ga gc ha hc gt go->Calls prog 14 #[.agg n5,.int .i64 1] W fun e w'=>e= .returned (.int .i64 (Ki gt go))/\Below W W w'):=hid (fun W h=>Y4 h FE);generalize Ki gt go=ke at *;obtain⟨x2,x3⟩:=Z15.out.two;go_upto_region 26 with fail
 go_cut[16] from 17 (fun v wc=>v= .int .i64 ke/\FW wc ga gc ha hc gt go/\Ah wc w6 (.cells n5 36)/\Below w3 w3 wc/\Below w w wc)
 case first=>
  go_wp2_with fail
  refine(C16 _ MA15).mono ?_;rintro e w16 ⟨rfl,hb16⟩;go_wp2_with fail
  go_meet;case rel=>exact⟨rfl,MA15.out.below hb16,Z15.out.below hb16,Ae L15 hb16,Ae B15 hb16⟩
 case rest=>
 obtain⟨rfl,ma16,z16,l16,b16⟩:=hcut;generalize wc=w16 at *;have Z16:=hid z16;have MA16:=hid ma16;have L16:=hid l16;have B16:=hid b16;clear x2 x3 z16 ma16 l16 b16 Z15 MA15 L15 B15;have A16:=hid (A3.out.below L16);have P16:=hid (P3.out.below L16);have aW:=A16.out.lt;have pW:=P16.out.lt;have HtK:Hid (∀W,Below w16 w16 W->Calls prog 7 #[.agg n15] W fun e w'=>∃l:Ar,e= .returned (.agg #[.slice l.ta l.tn l.tk,.slice l.oa l.on l.ok])/\k.same l/\l.ok=l.on/\l.row w'/\Below w16 w16 w'/\Below W W w'):=hid (fun W hW=>(TOK W (Ae B16 hW)).mono (fun e w' h=>by
  obtain⟨l,h1,h2,h3,h4,h5⟩:=h;exact⟨l,h1,h2,h3,h4.1,Ae hW h5,h5⟩))
 have HtS:Hid (∀W,Below w16 w16 W->Calls prog 8 #[.agg #[s.th,s.kind,s.id,s.to,s.cat,.string s.data,s.b1,.slice s.c1.a s.c1.n s.c1.k,s.b2,.slice s.c2.a s.c2.n s.c2.k]] W fun e w'=>∃t:Ak,e= .returned (.agg #[t.th,t.kind,t.id,t.to,t.cat,.string t.data,t.b1,.slice t.c1.a t.c1.n t.c1.k,t.b2,.slice t.c2.a t.c2.n t.c2.k])/\s.same t/\t.at w'/\Below w16 w16 w'/\Below W W w'):=hid (fun W hW=>(TOS W (Ae B16 hW)).mono (fun e w' h=>by
  obtain⟨t,h1,h2,h3,h4,h5⟩:=h;exact⟨t,h1,h2,h3,Ae hW h5,h5⟩))
 have HD:Hid (∀(l:Ar) (t:Ak) (W:World),k.same l->l.ok=l.on->l.row W->s.same t->t.at W->Below w16 w16 W->Calls prog 9 #[.agg #[.slice l.ta l.tn l.tk,.slice l.oa l.on l.ok],.agg #[t.th,t.kind,t.id,t.to,t.cat,.string t.data,t.b1,.slice t.c1.a t.c1.n t.c1.k,t.b2,.slice t.c2.a t.c2.n t.c2.k]] W fun e w'=>∃(lt:List Ac) (lo:List Ab) (ta oa:Option Addr) (ca co:Nat) (c:Int) (tx:ByteArray),e= .returned (.tuple #[.agg #[.slice ta lt.length ca,.slice oa lo.length co],.int .i64 c,.string tx])/\Ec w' w16 (.slice ta lt.length ca) (.slice oa lo.length co) lt lo/\FJ k s c tx lt lo/\Below w16 w16 w'/\Below W W w'):=hid (fun l t W h1 h0 h2 h3 h4 hW=>(IMPL l t W h1 h0 h2 h3 h4 (Ae B16 hW)).mono (fun e w' h=>by
  obtain⟨lt,lo,ta,oa,ca,co,c,tx,g1,g2,_,g3,g4⟩:=h;exact⟨lt,lo,ta,oa,ca,co,c,tx,g1,g2.base hW.size,g3,Ae hW g4,g4⟩))
 have HE00:Hid (Below w16 w16 w16.drew):=hid (Below.refl _ _).drew;have HE0:Hid (∀o,Below w16 w16 (w16.alloc o).drew):=hid (fun o=>((Below.refl _ _).alloc (Nat.le_refl _) o).drew);have n10:Na #[.slice ga gt.length gc,.slice ha go.length hc]:=⟨⟩;have PACK:Hid (FJ k s c0 tx lt lo/\Fit lt lo/\Ec w3 w2 (.slice ta lt.length ca) (.slice oa lo.length co) lt lo/\Ah w3 P0 (.cells #[.slice ta lt.length ca,.slice oa lo.length co] 36)/\Below w3 w3 w16/\Ah w16 w6 (.cells n10 36)/\FW w16 ga gc ha hc gt go/\Below w w w16/\(∀W,FW W ga gc ha hc gt go->Calls prog 14 #[.agg n10,.int .i64 1] W fun e w'=>e= .returned (.int .i64 ke)/\Below W W w')):=hid ⟨R3,F3,K3,Y3,L16,Z16,MA16,B16,C16⟩;try clear B5
 try clear L5
 try clear AT2
 try clear T2
 try clear RS5
 try clear V5
 try clear R5
 try clear X5
 try clear ROOM5
 try clear S2
 try clear O2
 try clear R3
 try clear F3
 try clear K3
 try clear Y3
 try clear L16
 try clear Z16
 try clear MA16
 try clear B16
 try clear C16
 try clear IMPL
 try clear TOK
 try clear TOS
 try clear EQ
 try clear AP
 try clear F6
 try clear FE
 try clear KS
 try clear HT
 try clear HB
 try clear HE
 try clear HS
 try clear HW
 try clear HK
 try clear A3
 try clear P3
 try clear B3
 try clear z3
 try clear z3'
 try clear z4
 try clear z4'
 try clear z5
 try clear z5'
 try clear z6
 try clear n11
 try clear n12
 try clear n13
 try clear n14
 try clear kp
 try clear k121
 try clear k122
 try clear k131
 try clear k13n
 try clear qd
 try clear qn1
 try clear qn2
 try clear h14
 try clear k12
 try clear k13
 obtain⟨x0,x1⟩:=A16.out.two;obtain⟨y0,y1,y2,y3,y4,y5,y6,y7,y8,y9⟩:=P16.out.jE;go_upto_region 31 with fail
 go_cut[17,18,19] (fun p c x wc=>Ym k s w16 p c x wc)
 case first=>
  go_region_held3(fun w'=>w'.cell? ⟨w,0,none⟩=some (.slice k.ta k.tn k.tk)/\w'.cell? ⟨w,1,none⟩=some (.slice k.oa k.on k.ok)/\w'.cell? ⟨w.heap.size+1,0,none⟩=some (.int .i64 s.th)/\w'.cell? ⟨w.heap.size+1,1,none⟩=some (.int .i64 s.kind)/\w'.cell? ⟨w.heap.size+1,2,none⟩=some (.int .i64 s.id)/\w'.cell? ⟨w.heap.size+1,3,none⟩=some (.int .i64 s.to)/\w'.cell? ⟨w.heap.size+1,4,none⟩=some (.int .i64 s.cat)/\w'.cell? ⟨w.heap.size+1,5,none⟩=some (.string s.data)/\w'.cell? ⟨w.heap.size+1,6,none⟩=some (.int .i64 s.b1)/\w'.cell? ⟨w.heap.size+1,7,none⟩=some (.slice s.c1.a s.c1.n s.c1.k)/\w'.cell? ⟨w.heap.size+1,8,none⟩=some (.int .i64 s.b2)/\w'.cell? ⟨w.heap.size+1,9,none⟩=some (.slice s.c2.a s.c2.n s.c2.k)) (first|(with_reducible refine⟨cell_far (by omega) (cell_far (by omega) ?_),cell_far (by omega) (cell_far (by omega) ?_),cell_far (by omega) (cell_far (by omega) ?_),cell_far (by omega) (cell_far (by omega) ?_),cell_far (by omega) (cell_far (by omega) ?_),cell_far (by omega) (cell_far (by omega) ?_),cell_far (by omega) (cell_far (by omega) ?_),cell_far (by omega) (cell_far (by omega) ?_),cell_far (by omega) (cell_far (by omega) ?_),cell_far (by omega) (cell_far (by omega) ?_),cell_far (by omega) (cell_far (by omega) ?_),cell_far (by omega) (cell_far (by omega) ?_)⟩<;>first|assumption|go_keep)|go_keep)
   (first
     |(go_at_call 9;refine(HD l1 t1 _ SL1 OL1 ?hB ST1 ?hC ?hA).mono ?_;(case hA=>first|with_reducible exact E2|with_reducible exact E2.alloc E2.size _);(case hB=>first|with_reducible exact R1.below hb2|with_reducible exact(R1.below ((Below.refl _ _).alloc (Nat.le_refl _) _)).below hb2|with_reducible exact(R1.below hb2).below ((Below.refl _ _).alloc (Nat.le_refl _) _));(case hC=>first|with_reducible exact T1|with_reducible exact T1.below ((Below.refl _ _).alloc (Nat.le_refl _) _));rintro e v3 ⟨lt',lo',ta',oa',ca',co',c',tx',rfl,KF,RT,E3,hb3⟩;obtain⟨p0,p1⟩:=(A16.out.below E3).two;obtain⟨j0,j1,j2,j3,j4,j5,j6,j7,j8,j9⟩:=(P16.out.below E3).jE;have e3:=E3.size;(first|(with_reducible (have Zk:=(Ah.new v2 (.cells #[.slice none 0 0,.slice none 0 0] 36)).below hb3);obtain⟨k1,k2⟩:=Zk.two;have kf0:=Zk.jC 0;have kf1:=Zk.jC 1)|(with_reducible (have Zk:=((Ah.new v1 (.cells #[.slice none 0 0,.slice none 0 0] 36)).below hb2).below hb3);obtain⟨k1,k2⟩:=Zk.two;have kf0:=Zk.jC 0;have kf1:=Zk.jC 1)|(with_reducible (have Zk:=(((Ah.new w16 (.cells #[.slice none 0 0,.slice none 0 0] 36)).drewX.below hb1).below hb2).below hb3);obtain⟨k1,k2⟩:=Zk.two;have kf0:=Zk.jC 0;have kf1:=Zk.jC 1)|skip))
     |(go_at_call 8;refine(HtS _ ?hB).mono ?_;(case hB=>first|with_reducible exact E1|with_reducible exact E1.alloc E1.size _);rintro e v2 ⟨t1,rfl,ST1,T1,E2,hb2⟩;obtain⟨p0,p1⟩:=(A16.out.below E2).two;obtain⟨j0,j1,j2,j3,j4,j5,j6,j7,j8,j9⟩:=(P16.out.below E2).jE;have e2:=E2.size)
     |(go_at_call 7;refine(HtK _ ?hB).mono ?_;(case hB=>first|exact HE00.out|exact HE0.out _);rintro e v1 ⟨l1,rfl,SL1,ol1,R1,E1,hb1⟩;have OL1:=hid ol1;clear ol1;obtain⟨p0,p1⟩:=(A16.out.below E1).two;obtain⟨j0,j1,j2,j3,j4,j5,j6,j7,j8,j9⟩:=(P16.out.below E1).jE;have e1:=E1.size))
  all_goals
   clear HtK HtS HD;go_wp2_with fail
   go_meet;case rel=>
    first|exact Rk Zk (by omega) KF RT E3|exact Ra KF RT E3
 case rest=>
 obtain⟨P7,lt7,lo7,ta7,oa7,ca7,co7,c7,tx7,rfl,rfl,rfl,P7l,bp,kf,rt,e7⟩:=hcut;generalize wc=w17 at *;obtain⟨r3,f3,k3,y3,l16,z16,ma16,b16,c16⟩:=PACK.out;have R3:=hid r3;have F3:=hid f3;have K3:=hid k3;have Y3:=hid y3;have L16:=hid l16;have Z16:=hid z16;have MA16:=hid ma16;have B16:=hid b16;have C16:=hid c16;clear r3 f3 k3 y3 l16 z16 ma16 b16 c16 PACK;obtain⟨ec,et,eqt,eqo⟩:=Lk rt R3.out;subst ec et;have C17:=hid (Zb kf rt.fit (K3.out.below (Ae L16 e7)) F3 eqt eqo);have Z17:=hid (Z16.out.below e7);have MA17:=hid (MA16.out.below e7);have B17:=hid (Ae B16 e7);clear x0 x1 y0 y1 y2 y3 y4 y5 y6 y7 y8 y9;obtain⟨x0,x1⟩:=(Y3.out.below (Ae L16 e7)).two;obtain⟨x2,x3⟩:=bp.two;clear HtK HtS HD HE00 HE0 kf rt eqt eqo;go_wp2_with fail
 clear x0 x1 x2 x3;refine C17.out.mono ?_;rintro e w18 ⟨rfl,hb18⟩;have Z18:=hid (Z17.out.below hb18);have MA18:=hid (MA17.out.below hb18);have B18:=hid (Ae B17 hb18);clear hb18 C17 Z17 MA17 B17;obtain⟨x2,x3⟩:=Z18.out.two;go_wp2_with fail
 clear x2 x3;refine(C16 _ MA18).mono ?_;rintro e w19 ⟨rfl,hb19⟩;have B19:=hid (Ae B18 hb19);go_wp2;go_ret;exact⟨rfl,B19⟩
end Go.Proofs.YtmikapeeflcbfaaGreatDoor
