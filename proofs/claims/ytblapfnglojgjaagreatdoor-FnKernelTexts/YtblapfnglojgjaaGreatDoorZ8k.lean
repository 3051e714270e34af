import Derived.Test.YtblapfnglojgjaaGreatDoorZ7k
set_option maxRecDepth 100000
set_option maxHeartbeats 16000000
namespace Go.Proofs.YtblapfnglojgjaaGreatDoor
open Go Go.RowKit Go.Deep Go.Maps Go.BigFrame Go.Shelf Go.Proofs.Tryz
variable {w:World}{B g ca t:Nat}{vo:Value}{lt:List Af}{lo:List Ae}
theorem Am{F:Func}(tmps:Array Value)(W:World)(P n:Nat)(x y u v:Value)(hF:F.results=#[.cell n 27,.tmp (n+1),.tmp (n+2)])(h:Ai W P (.cells #[x,y] 27))(h2:tmps[n]? =some (.pointer P))(h3:tmps[n+1]? =some u)(h4:tmps[n+2]? =some v):
 (results F tmps).run prog W= .ok (.tuple #[.agg #[x,y],u,v]) W:=by
 obtain⟨z0,z1⟩:=h.two;simp[results,hF,go_sem,h2,h3,h4,z0,z1]
theorem Cf.jJ(h:Cf w B (.slice g lt.length ca) vo lt lo)(ht:t<lt.length):KZ w g (t*7) lt[t]/\g<w.heap.size:=by
 obtain⟨b,off,e,hlt,hc⟩:=h.t.lies (fun x hx=>(h.tn x hx).at) (by omega);simp only[Option.some.injEq,Addr.mk.injEq,and_true]at e;obtain⟨rfl,rfl⟩:=e;have h1:=(hc t ht).1;have e1:Bm lt t=lt[t]:=by simp[Bm,ht]
 rw[e1,Nat.zero_add]at h1;exact⟨h1,hlt⟩
theorem Cf.jF{co:Nat}{vt:Value}(h:Cf w B vt (.slice g lo.length co) lt lo)(ht:t<lo.length)(hd:∀x∈lo,x.data.size<=maxLen):Eg w g (t*10) lo[t]/\g<w.heap.size:=by
 obtain⟨b,off,e,hlt,hc⟩:=h.o.lies (fun x hx=>⟨(h.on x hx).1.1,(h.on x hx).2.1.1,(h.on x hx).2.2.1.1,(h.on x hx).2.2.2.1,hd x hx⟩) (by omega);simp only[Option.some.injEq,Addr.mk.injEq,and_true]at e;obtain⟨rfl,rfl⟩:=e;have h1:=(hc t ht).1;have e1:Aa lo t=lo[t]:=by simp[Aa,ht]
 rw[e1,Nat.zero_add]at h1;exact⟨h1,hlt⟩
theorem J0{α:Type}{l:List α}(ht:t<l.length):l.set t l[t]=l:=by
 refine List.ext_getElem (by simp) fun i h1 h2=>?_;rw[List.getElem_set];split
 ·rename_i e;subst e;rfl
 ·rfl
theorem Cf.setLab(h:Cf w B (.slice g lt.length ca) vo lt lo){b:Int}{d:AH}(ht:t<lt.length){X:Af}(hX:X=lt[t])(hd:d.new B w):
 Cf ((w.setCell ⟨g,t*7+1,none⟩ (.int .i64 b)).setCell ⟨g,t*7+2,none⟩ (.slice d.a d.n d.k)) B (.slice g lt.length ca) vo (lt.set t ⟨X.id,b,d,X.b2,X.c2,X.own,X.made⟩) lo/\(∃cur,Ai w g (.cells cur 47))/\B<=g:=by
 have hn:=h.tn _ (List.getElem_mem ht);have hc:=h.tc _ (List.getElem_mem ht);rw[<-hX]at hn hc;obtain⟨k1,⟨cur,hcur⟩,hg⟩:=h.setT (x:=⟨X.id,b,X.c1,X.b2,X.c2,X.own,X.made⟩) (u:= .int .i64 b) ht (i:=1) (by omega) (by rw[<-hX];rfl) hn hc;have el:(lt.set t (⟨X.id,b,X.c1,X.b2,X.c2,X.own,X.made⟩:Af)).length=lt.length:=by simp
 have kl:=Aw (i:=t*7+1) hcur (by decide) (.int .i64 b);have ht':t<(lt.set t (⟨X.id,b,X.c1,X.b2,X.c2,X.own,X.made⟩:Af)).length:=by rw[el];exact ht
 obtain⟨k2,_,_⟩:=k1.setT (x:=⟨X.id,b,d,X.b2,X.c2,X.own,X.made⟩) (u:= .slice d.a d.n d.k) ht' (i:=2) (by omega) (by rw[List.getElem_set_self];rfl) ⟨hd.keeps kl,hn.2.1.keeps kl,hn.2.2.keeps kl⟩ hc;rw[List.set_set]at k2;have e2:(lt.set t (⟨X.id,b,d,X.b2,X.c2,X.own,X.made⟩:Af)).length=lt.length:=by simp
 rw[e2]at k2;exact⟨k2,⟨cur,hcur⟩,hg⟩
def Fg(c:AH):Prop:=∀j,j<c.n->∀i,i<j->c.f i<c.f j
def MA(x:Af)(s:Bd):Bool:=Dh x.b1 x.c1.n x.c1.f x.c1.g x.own.n x.own.h s.b1 s.c1.n s.c1.f s.c1.g&&Dh s.b1 s.c1.n s.c1.f s.c1.g x.own.n x.own.h x.b2 x.c2.n x.c2.f x.c2.g
theorem RU(lt:List Af)(lo:List Ae)(g ca:Nat)(oa:Option Addr)(co B:Nat)(w:World)(st:Cf w B (.slice g lt.length ca) (.slice oa lo.length co) lt lo)(hB:B<=w.heap.size)(t:Nat)(ht:t<lt.length)(X:Af)(hX:X=lt[t])(xs:X.small)(s:Bd)(hs:s.at w)(hk:s.kind=12)(hn1:s.c1.n<=1048576)
 (r1:Fg X.c1)(r2:Fg X.c2)(r3:Fg s.c1):
 Calls prog 88 #[.agg #[.slice g lt.length ca,.slice oa lo.length co],.int .i64 t,.agg s] w fun e w'=>∃(x:Af) (c:Int),e= .returned (.tuple #[.agg #[.slice g lt.length ca,.slice oa lo.length co],.int .i64 c,.string ⟨#[]⟩])/\Cf w' B (.slice g lt.length ca) (.slice oa lo.length co) (lt.set t x) lo/\Below B w w'/\((c=4/\MA X s=false/\x=X)∨(c=0/\MA X s=true/\∃d:AH,s.c1.same d/\x=⟨X.id,s.b1,d,X.b2,X.c2,X.own,X.made⟩)):=by
 obtain⟨th,kd,id_,to_,cat,dat,sb1,sc1,sb2,sc2⟩:=s;simp only at hk hn1 r3 ⊢;subst hk;have XN:Hid (X.new B w/\(X.own.n<=X.own.k/\X.own.k<=maxLen)):=hid (by rw[hX];exact⟨st.tn _ (List.getElem_mem ht),st.tc _ (List.getElem_mem ht)⟩);have XA:Hid (X.at w):=hid XN.out.1.at;obtain⟨CW,gl⟩:=st.jJ ht;rw[<-hX]at CW;have n3:No (.cells #[th,.int .i64 12,id_,to_,cat,.string dat,sb1,sc1,sb2,sc2] 77):=⟨⟩;have n4:No (.cells #[.slice g lt.length ca,.slice oa lo.length co] 27):=⟨⟩;have n5:No (.cells #[.slice none 0 0,.slice none 0 0] 27):=⟨⟩;have n1:Nw (((w.alloc n4).alloc n3).alloc n5):=⟨⟩;have b3:Below w w n1:=((CY w _).alloc (by simp) _).alloc (by simp;omega) _;have CC:=CW.below gl b3;have q0:(n1:World).cell? ⟨g,t*7,none⟩=some (.int .i64 X.id):=CC.c0;have q1:(n1:World).cell? ⟨g,t*7+1,none⟩=some (.int .i64 X.b1):=CC.c1;have q2:(n1:World).cell? ⟨g,t*7+2,none⟩=some (.slice X.c1.a X.c1.n X.c1.k):=CC.c2;have q3:(n1:World).cell? ⟨g,t*7+3,none⟩=some (.int .i64 X.b2):=CC.c3;have q4:(n1:World).cell? ⟨g,t*7+4,none⟩=some (.slice X.c2.a X.c2.n X.c2.k):=CC.c4;have q5:(n1:World).cell? ⟨g,t*7+5,none⟩=some (.slice X.own.a X.own.n X.own.k):=CC.c5;have q6:(n1:World).cell? ⟨g,t*7+6,none⟩=some (.int .i64 X.made):=CC.c6;have n2:No (.cells X 47):=⟨⟩;have b0:Below w w ((n1:World).alloc n2):=(((CY w _).alloc (by simp) _).alloc (by simp;omega) _).alloc (by simp;omega) _;have A0:Ai ((n1:World).alloc n2) w n4:=(((Ai.new w _).alloc _).alloc _).alloc _;have P0:Ai ((n1:World).alloc n2) (w.heap.size+1) n3:=by have:=((Ai.new (w.alloc n4) n3).alloc n5).alloc n2;simpa using this
 have R0:Ai ((n1:World).alloc n2) (w.heap.size+1+1) n5:=by have:=(Ai.new ((w.alloc n4).alloc n3) n5).alloc n2;simpa using this
 have X0:Ai ((n1:World).alloc n2) (w.heap.size+1+1+1) n2:=by have:=Ai.new n1 n2;simpa using this
 have HS:=hid (st.below b0);have HB:=hid b0;have HA:=hid A0;have HP:=hid P0;have HR:=hid R0;have HX:=hid X0;have SA:=hid hs;have EX:=hid hX;have i0:(0:Int)<=(t:Int):=by omega
 have i1:(t:Int)<(lt.length:Int):=by omega
 have n6:Na #[sb1,sc1]:=⟨⟩;have F1:Hid (∀W,Below w w W->Calls prog 109 #[.agg #[X.b1,X.c1],X.own,.agg n6] W fun e w'=>e= .returned (.bool (Dh X.b1 X.c1.n X.c1.f X.c1.g X.own.n X.own.h sb1 sc1.n sc1.f sc1.g))/\Below W W w'):=hid (fun W hW=>GP _ _ _ _ X.c1.f X.c1.g _ _ _ X.own.h _ _ _ _ sc1.f sc1.g W xs.1 hn1 (XA.out.2.2.1) ((XA.out.below hW).1.2) ((SA.out.below hW).1.2) ((XA.out.below hW).2.2.2) r1 r3);have F2:Hid (∀W,Below w w W->Calls prog 109 #[.agg n6,X.own,.agg #[X.b2,X.c2]] W fun e w'=>e= .returned (.bool (Dh sb1 sc1.n sc1.f sc1.g X.own.n X.own.h X.b2 X.c2.n X.c2.f X.c2.g))/\Below W W w'):=hid (fun W hW=>GP _ _ _ _ sc1.f sc1.g _ _ _ X.own.h _ _ _ _ X.c2.f X.c2.g W hn1 xs.2.1 (XA.out.2.2.1) ((SA.out.below hW).1.2) ((XA.out.below hW).2.1.2) ((XA.out.below hW).2.2.2) r3 r2);have CLB:Hid (∀W,Below w w W->Calls prog 110 #[.agg n6] W fun e w'=>∃d:AH,e= .returned (.agg #[sb1,d])/\sc1.same d/\d.new W w'/\Below W W w'):=hid (fun W hW=>Ct sb1 sc1 W (SA.out.below hW).1 hn1);have ER:Hid (MA X ⟨th,12,id_,to_,cat,dat,sb1,sc1,sb2,sc2⟩=(Dh X.b1 X.c1.n X.c1.f X.c1.g X.own.n X.own.h sb1 sc1.n sc1.f sc1.g&&Dh sb1 sc1.n sc1.f sc1.g X.own.n X.own.h X.b2 X.c2.n X.c2.f X.c2.g)):=hid rfl;generalize Dh X.b1 X.c1.n X.c1.f X.c1.g X.own.n X.own.h sb1 sc1.n sc1.f sc1.g=f1 at *;generalize Dh sb1 sc1.n sc1.f sc1.g X.own.n X.own.h X.b2 X.c2.n X.c2.f X.c2.g=f2 at *;generalize MA X ⟨th,12,id_,to_,cat,dat,sb1,sc1,sb2,sc2⟩=rb at *;clear CC CW b3 b0 A0 P0 R0 X0 hs hX st;go_enter func88,ntmps88
 have WV:=hid HB.out;obtain⟨x0,x1⟩:=HA.out.two;obtain⟨s0,s1,s2,s3,s4,s5,s6,s7,s8,s9⟩:=HP.out.jE;obtain⟨y0,y1,y2,y3,y4,y5,y6⟩:=HX.out.seven;go_wp2_with fail
 have n7:Nv (.slice g lt.length ca):=⟨⟩;have BX:Hid (∀W,Below ((n1:World).alloc n2).heap.size ((n1:World).alloc n2) W->Ai W w n4/\Ai W (w.heap.size+1) n3/\Ai W (w.heap.size+1+1) n5/\Ai W (w.heap.size+1+1+1) n2/\Cf W B n7 (.slice oa lo.length co) lt lo):=hid (fun W hW=>⟨HA.out.below hW,HP.out.below hW,HR.out.below hW,HX.out.below hW,HS.out.below hW⟩);have LW:Hid (∀W,Below ((n1:World).alloc n2).heap.size ((n1:World).alloc n2) W->Below w w W):=hid (fun W hW=>Ac HB hW);have LB:Hid (∀W,Below ((n1:World).alloc n2).heap.size ((n1:World).alloc n2) W->Below B w W):=hid (fun W hW=>(Ac HB hW).mono hB);have V0:=hid (Below.refl ((n1:World).alloc n2).heap.size ((n1:World).alloc n2));clear x0 x1 s0 s1 s2 s3 s4 s5 s6 s7 s8 s9 y0 y1 y2 y3 y4 y5 y6 q0 q1 q2 q3 q4 q5 q6 HA HP HR HX HS WV;generalize ((n1:World).alloc n2)=V at *;refine(F1 _ (LW _ V0)).mono ?_;rintro e w1 ⟨rfl,hb1⟩;have V1:=hid (Ac V0 hb1);clear hb1;obtain⟨x0,x1⟩:=(BX _ V1).1.two;obtain⟨s0,s1,s2,s3,s4,s5,s6,s7,s8,s9⟩:=(BX _ V1).2.1.jE;obtain⟨r0,r1⟩:=(BX _ V1).2.2.1.two;have rf:=(BX _ V1).2.2.1.jC;obtain⟨y0,y1,y2,y3,y4,y5,y6⟩:=(BX _ V1).2.2.2.1.seven;cases f1 with
 |false=>
  simp only[Bool.false_and]at ER;go_wp2;have RB:=hid (BX.out _ V1).2.2.1;have KB:=hid (BX.out _ V1).2.2.2.2;refine bodyPost_ret (Am _ _ (w.heap.size+1+1) 6 _ _ _ _ Tryz.results88 ((RB.out.jB (i:=0) _).jB (i:=1) _) rfl rfl rfl) rfl ⟨X,4,rfl,?_,?_,.inl ⟨rfl,ER,rfl⟩⟩
  ·rw[EX.out,J0];exact(KB.out.set RB (.inl rfl) _).set (RB.out.jB (i:=0) _) (.inl rfl) _
  ·exact((LB _ V1).setCell (by dsimp only;omega) _).setCell (by dsimp only;omega) _
 |true=>
 go_wp2_with fail
 refine(F2 _ (LW _ V1)).mono ?_;rintro e w2 ⟨rfl,hb2⟩;have V2:=hid (Ac V1 hb2);clear hb2;clear x0 x1 s0 s1 s2 s3 s4 s5 s6 s7 s8 s9 r0 r1 rf y0 y1 y2 y3 y4 y5 y6;obtain⟨x0,x1⟩:=(BX _ V2).1.two;obtain⟨s0,s1,s2,s3,s4,s5,s6,s7,s8,s9⟩:=(BX _ V2).2.1.jE;obtain⟨r0,r1⟩:=(BX _ V2).2.2.1.two;have rf:=(BX _ V2).2.2.1.jC;obtain⟨y0,y1,y2,y3,y4,y5,y6⟩:=(BX _ V2).2.2.2.1.seven;cases f2 with
 |false=>
  simp only[Bool.and_false]at ER;go_wp2;have RB:=hid (BX.out _ V2).2.2.1;have KB:=hid (BX.out _ V2).2.2.2.2;refine bodyPost_ret (Am _ _ (w.heap.size+1+1) 6 _ _ _ _ Tryz.results88 ((RB.out.jB (i:=0) _).jB (i:=1) _) rfl rfl rfl) rfl ⟨X,4,rfl,?_,?_,.inl ⟨rfl,ER,rfl⟩⟩
  ·rw[EX.out,J0];exact(KB.out.set RB (.inl rfl) _).set (RB.out.jB (i:=0) _) (.inl rfl) _
  ·exact((LB _ V2).setCell (by dsimp only;omega) _).setCell (by dsimp only;omega) _
 |true=>
 simp only[Bool.and_true]at ER;have EG:Hid (∀args w,(callFunc 110 args).run prog w= .ok (.enter 110 args) w):=hid (enters_of func110 (by kernel_rfl) rfl);have D0:=hid (AE V2);clear x0 x1 s0 s1 s2 s3 s4 s5 s6 s7 s8 s9 r0 r1 rf y0 y1 y2 y3 y4 y5 y6;obtain⟨x0,x1⟩:=(BX _ D0).1.two;obtain⟨s0,s1,s2,s3,s4,s5,s6,s7,s8,s9⟩:=(BX _ D0).2.1.jE;obtain⟨r0,r1⟩:=(BX _ D0).2.2.1.two;have rf:=(BX _ D0).2.2.1.jC;obtain⟨y0,y1,y2,y3,y4,y5,y6⟩:=(BX _ D0).2.2.2.1.seven;have CP:Hid (Calls prog 110 #[.agg n6] w2.drew fun e w'=>∃v,e= .returned v/\(∃d:AH,v= .agg #[sb1,d]/\sc1.same d/\d.new w2.drew.heap.size w'/\Below w2.drew.heap.size w2.drew w')):=hid ((CLB _ (LW _ D0)).mono fun _ _ ⟨d,e1,h1,h2,h3⟩=>⟨_,e1,d,rfl,h1,h2,h3⟩);go_wp2_with fail
 go_region_law(first
  |(refine Kq (by rfl) 110 _ _ (by rfl) EG _ (by rfl) _ CP ?_;rintro v w3 ⟨d,rfl,sd,nd,b3⟩;have V3:=hid (Ac D0 b3);have SD:=hid sd;have ND:=hid (nd.low (Nat.le_trans hB (LW _ D0).size));obtain⟨m0,m1⟩:=(BX _ V3).1.two;have KB:=hid (BX.out _ V3).2.2.2.2;have CC:=(KB.out.jJ ht).1;have c1:=CC.c1;have c2:=CC.c2;have GF:=hid (KB.out.setLab (b:=sb1) (d:=d) ht EX ND);have gf:=GF.out.2.1.choose_spec.jC;clear sd nd b3 CC))
 all_goals(
  have ng1:g≠w.heap.size:=by omega
  have ng2:g≠w.heap.size+1+1:=by omega
  have K4:Hid (Cf ((w3.setCell ⟨g,t*7+1,none⟩ (.int .i64 sb1)).setCell ⟨g,t*7+1+1,none⟩ (.slice d.a d.n d.k)) B n7 (.slice oa lo.length co) (lt.set t ⟨X.id,sb1,d,X.b2,X.c2,X.own,X.made⟩) lo):=hid GF.out.1;have A4:=hid (((BX _ V3).1.other ng1 (i:=t*7+1) (.int .i64 sb1)).other ng1 (i:=t*7+1+1) (.slice d.a d.n d.k));have R4:=hid (((BX _ V3).2.2.1.other ng2 (i:=t*7+1) (.int .i64 sb1)).other ng2 (i:=t*7+1+1) (.slice d.a d.n d.k));have L4:Hid (Below B w ((w3.setCell ⟨g,t*7+1,none⟩ (.int .i64 sb1)).setCell ⟨g,t*7+1+1,none⟩ (.slice d.a d.n d.k))):=hid (((LB _ V3).setCell (by dsimp only;exact GF.out.2.2) _).setCell (by dsimp only;exact GF.out.2.2) _);clear GF gf c1 c2 KB m0 m1 x0 x1 s0 s1 s2 s3 s4 s5 s6 s7 s8 s9 r0 r1 rf y0 y1 y2 y3 y4 y5 y6 ND;generalize (w3.setCell ⟨g,t*7+1,none⟩ (.int .i64 sb1)).setCell ⟨g,t*7+1+1,none⟩ (.slice d.a d.n d.k)=W4 at *;obtain⟨x0,x1⟩:=A4.out.two;obtain⟨r0,r1⟩:=R4.out.two;have rf:=R4.out.jC;go_wp2;refine bodyPost_ret (Am _ _ (w.heap.size+1+1) 6 _ _ _ _ Tryz.results88 ((R4.out.jB (i:=0) _).jB (i:=1) _) rfl rfl rfl) rfl ⟨⟨X.id,sb1,d,X.b2,X.c2,X.own,X.made⟩,0,rfl,(K4.out.set R4 (.inl rfl) _).set (R4.out.jB (i:=0) _) (.inl rfl) _,(L4.out.setCell (by dsimp only;omega) _).setCell (by dsimp only;omega) _,.inr ⟨rfl,ER,d,SD,rfl⟩⟩)
variable {w:World}{B j:Nat}{l:List Int}{h:Nat->Int}{c:Int}
theorem AQ.newL{c:Nat}{a:Option Addr}(h:AQ w B (.slice a l.length c) l)(hl:l.length<=1048576):AU.new B w ⟨a,l.length,c,Bl l⟩:=by
 refine QW ?_ hl;have e:(List.range l.length).map (Bl l)=l:=List.ext_getElem (by simp) fun i h1 h2=>by simp[Bl,h2]
 rw[e];exact h
theorem AQ.below'{w':World}{v:Value}(h:AQ w B v l)(hb:Below w w w'):AQ w' B v l:=World.ownsRow.kept (row:=none) h ⟨hb.os,hb.tape,hb.output,hb.size,fun k hk _=>hb.block k hk⟩ (by cases v.ownBlock<;>simp)
theorem Cf.setOwn{g ca:Nat}{vo:Value}{lt:List Af}{lo:List Ae}(h:Cf w B (.slice g lt.length ca) vo lt lo){t:Nat}{d:AU}(ht:t<lt.length){X:Af}(hX:X=lt[t])(hd:d.new B w)(hdc:d.n<=d.k/\d.k<=maxLen):
 Cf (w.setCell ⟨g,t*7+5,none⟩ (.slice d.a d.n d.k)) B (.slice g lt.length ca) vo (lt.set t ⟨X.id,X.b1,X.c1,X.b2,X.c2,d,X.made⟩) lo/\(∃cur,Ai w g (.cells cur 47))/\B<=g:=by
 have hn:=h.tn _ (List.getElem_mem ht);rw[<-hX]at hn;obtain⟨k1,hcur,hg⟩:=h.setT (x:=⟨X.id,X.b1,X.c1,X.b2,X.c2,d,X.made⟩) (u:= .slice d.a d.n d.k) ht (i:=5) (by omega) (by rw[<-hX];rfl) ⟨hn.1,hn.2.1,hd⟩ hdc;have el:(lt.set t (⟨X.id,X.b1,X.c1,X.b2,X.c2,d,X.made⟩:Af)).length=lt.length:=by simp
 rw[el]at k1;exact⟨k1,hcur,hg⟩
def Dz(h:Nat->Int)(c:Int)(j:Nat):List Int:=((List.range j).map h).filter (fun y=> !decide (y=c))
theorem Ob(e:h j=c):Dz h c (j+1)=Dz h c j:=by
 unfold Dz;rw[List.range_succ,List.map_append,List.filter_append];simp[e]
theorem Vf(e:h j≠c):Dz h c (j+1)=Dz h c j++[h j]:=by
 unfold Dz;rw[List.range_succ,List.map_append,List.filter_append];simp[e]
theorem Ms(h:Nat->Int)(c:Int)(j:Nat):(Dz h c j).length<=j:=by
 unfold Dz;refine Nat.le_trans (List.length_filter_le _ _) ?_;simp
theorem Sg(lt:List Af)(lo:List Ae)(g ca:Nat)(oa:Option Addr)(co B:Nat)(w:World)(st:Cf w B (.slice g lt.length ca) (.slice oa lo.length co) lt lo)(hB:B<=w.heap.size)(t:Nat)(ht:t<lt.length)(X:Af)(hX:X=lt[t])(xs:X.small)(s:Bd)(hk:s.kind=14):
 Calls prog 88 #[.agg #[.slice g lt.length ca,.slice oa lo.length co],.int .i64 t,.agg s] w fun e w'=>∃(x:Af) (c:Int),e= .returned (.tuple #[.agg #[.slice g lt.length ca,.slice oa lo.length co],.int .i64 c,.string ⟨#[]⟩])/\Cf w' B (.slice g lt.length ca) (.slice oa lo.length co) (lt.set t x) lo/\Below B w w'/\((c=4/\hasB X.own.n X.own.h s.cat=false/\x=X)∨(c=0/\hasB X.own.n X.own.h s.cat=true/\∃(a:Option Addr) (cc:Nat),x=⟨X.id,X.b1,X.c1,X.b2,X.c2,⟨a,(Dz X.own.h s.cat X.own.n).length,cc,Bl (Dz X.own.h s.cat X.own.n)⟩,X.made⟩)):=by
 obtain⟨th,kd,id_,to_,cat,dat,sb1,sc1,sb2,sc2⟩:=s;simp only at hk ⊢;subst hk;have XN:Hid (X.new B w/\(X.own.n<=X.own.k/\X.own.k<=maxLen)):=hid (by rw[hX];exact⟨st.tn _ (List.getElem_mem ht),st.tc _ (List.getElem_mem ht)⟩);have XA:Hid (X.at w):=hid XN.out.1.at;have on1:X.own.n<=1048576:=xs.2.2;obtain⟨CW,gl⟩:=st.jJ ht;rw[<-hX]at CW;have n4:No (.cells #[th,.int .i64 14,id_,to_,cat,.string dat,sb1,sc1,sb2,sc2] 77):=⟨⟩;have n5:No (.cells #[.slice g lt.length ca,.slice oa lo.length co] 27):=⟨⟩;have n6:No (.cells #[.slice none 0 0,.slice none 0 0] 27):=⟨⟩;have n1:Nw (((w.alloc n5).alloc n4).alloc n6):=⟨⟩;have b3:Below w w n1:=((CY w _).alloc (by simp) _).alloc (by simp;omega) _;have CC:=CW.below gl b3;have q0:(n1:World).cell? ⟨g,t*7,none⟩=some (.int .i64 X.id):=CC.c0;have q1:(n1:World).cell? ⟨g,t*7+1,none⟩=some (.int .i64 X.b1):=CC.c1;have q2:(n1:World).cell? ⟨g,t*7+2,none⟩=some (.slice X.c1.a X.c1.n X.c1.k):=CC.c2;have q3:(n1:World).cell? ⟨g,t*7+3,none⟩=some (.int .i64 X.b2):=CC.c3;have q4:(n1:World).cell? ⟨g,t*7+4,none⟩=some (.slice X.c2.a X.c2.n X.c2.k):=CC.c4;have q5:(n1:World).cell? ⟨g,t*7+5,none⟩=some (.slice X.own.a X.own.n X.own.k):=CC.c5;have q6:(n1:World).cell? ⟨g,t*7+6,none⟩=some (.int .i64 X.made):=CC.c6;have n3:No (.cells X 47):=⟨⟩;have b0:Below w w ((n1:World).alloc n3):=(((CY w _).alloc (by simp) _).alloc (by simp;omega) _).alloc (by simp;omega) _;have A0:Ai ((n1:World).alloc n3) w n5:=(((Ai.new w _).alloc _).alloc _).alloc _;have P0:Ai ((n1:World).alloc n3) (w.heap.size+1) n4:=by have:=((Ai.new (w.alloc n5) n4).alloc n6).alloc n3;simpa using this
 have R0:Ai ((n1:World).alloc n3) (w.heap.size+1+1) n6:=by have:=(Ai.new ((w.alloc n5).alloc n4) n6).alloc n3;simpa using this
 have X0:Ai ((n1:World).alloc n3) (w.heap.size+1+1+1) n3:=by have:=Ai.new n1 n3;simpa using this
 have HS:=hid (st.below b0);have HB:=hid b0;have HA:=hid A0;have HP:=hid P0;have HR:=hid R0;have HX:=hid X0;have EX:=hid hX;have i0:(0:Int)<=(t:Int):=by omega
 have i1:(t:Int)<(lt.length:Int):=by omega
 have F1:Hid (∀W,Below w w W->Calls prog 111 #[X.own,cat] W fun e w'=>e= .returned (.bool (hasB X.own.n X.own.h cat))/\w'=W):=hid (fun W hW=>Ki _ _ _ X.own.h cat W XA.out.2.2.1 ((XA.out.below hW).2.2.2));have OI:Hid (∀W,Below w w W->Ce W X.own.a X.own.n X.own.h):=hid (fun W hW=>(XA.out.below hW).2.2.2);obtain⟨hb_,eh⟩:∃b,b=hasB X.own.n X.own.h cat:=⟨_,rfl⟩;rw[<-eh]at F1;have EH:=hid eh;clear CC CW b3 b0 A0 P0 R0 X0 hX st eh;go_enter func88,ntmps88
 obtain⟨x0,x1⟩:=HA.out.two;obtain⟨s0,s1,s2,s3,s4,s5,s6,s7,s8,s9⟩:=HP.out.jE;obtain⟨y0,y1,y2,y3,y4,y5,y6⟩:=HX.out.seven;go_wp2_with fail
 have n7:No (.cells #[th,.int .i64 14,id_,to_,cat,.string dat,sb1,sc1,sb2,sc2] 77):=⟨⟩;have n8:No (.cells X 47):=⟨⟩;have n2:Nw ((((w.alloc n5).alloc n7).alloc n6).alloc n8):=⟨⟩;have BX:Hid (∀W,Below (n2:World).heap.size n2 W->Ai W w n5/\Ai W (w.heap.size+1) n7/\Ai W (w.heap.size+1+1) n6/\Ai W (w.heap.size+1+1+1) n8/\Cf W B (.slice g lt.length ca) (.slice oa lo.length co) lt lo):=hid (fun W hW=>⟨HA.out.below hW,HP.out.below hW,HR.out.below hW,HX.out.below hW,HS.out.below hW⟩);have LW:Hid (∀W,Below (n2:World).heap.size n2 W->Below w w W):=hid (fun W hW=>Ac HB hW);have LB:Hid (∀W,Below (n2:World).heap.size n2 W->Below B w W):=hid (fun W hW=>(Ac HB hW).mono hB);have V0:=hid (Below.refl (n2:World).heap.size n2);clear x0 x1 s0 s1 s2 s3 s4 s5 s6 s7 s8 s9 y0 y1 y2 y3 y4 y5 y6 q0 q1 q2 q3 q4 q5 q6 HA HP HR HX HS;generalize (n2:World)=V at *;refine(F1 _ (LW _ V0)).mono ?_;rintro e w1 ⟨rfl,rfl⟩;obtain⟨x0,x1⟩:=(BX _ V0).1.two;obtain⟨s0,s1,s2,s3,s4,s5,s6,s7,s8,s9⟩:=(BX _ V0).2.1.jE;obtain⟨r0,r1⟩:=(BX _ V0).2.2.1.two;have rf:=(BX _ V0).2.2.1.jC;obtain⟨y0,y1,y2,y3,y4,y5,y6⟩:=(BX _ V0).2.2.2.1.seven;cases hb_ with
 |false=>
  go_wp2;have RB:=hid (BX.out _ V0).2.2.1;have KB:=hid (BX.out _ V0).2.2.2.2;refine bodyPost_ret (Am _ _ (w.heap.size+1+1) 6 _ _ _ _ Tryz.results88 ((RB.out.jB (i:=0) _).jB (i:=1) _) rfl rfl rfl) rfl ⟨X,4,rfl,?_,?_,.inl ⟨rfl,EH.out.symm,rfl⟩⟩
  ·rw[EX.out,J0];exact(KB.out.set RB (.inl rfl) _).set (RB.out.jB (i:=0) _) (.inl rfl) _
  ·exact((LB _ V0).setCell (by dsimp only;omega) _).setCell (by dsimp only;omega) _
 |true=>
 have E0:=hid (AQ.made w1 w1 nr);have BE:=hid (CY w1 (.cells #[] 2));go_wp2;clear x0 x1 s0 s1 s2 s3 s4 s5 s6 s7 s8 s9 r0 r1 rf y0 y1 y2 y3 y4 y5 y6;go_loopw [11,12] (fun v i wr=>∃(j:Nat) (la:Option Addr) (lc:Nat),j<=X.own.n/\i= .int .i64 j/\v= .slice la (Dz X.own.h cat j).length lc/\AQ wr w1 (.slice la (Dz X.own.h cat j).length lc) (Dz X.own.h cat j)/\Below w1 w1 wr) (fun _ i _=>X.own.n-(intOf i).toNat)
 case atStart=>exact⟨0,_,0,Nat.zero_le _,rfl,rfl,E0,BE⟩
 case round=>
  clear E0 BE;obtain⟨j,la,lc,hj,rfl,rfl,ow,be⟩:=hrel;have OW:=hid ow;have BB:=hid be;have ll:=Ms X.own.h cat j;clear ow be;obtain⟨x0,x1⟩:=(BX _ BB).1.two;obtain⟨s0,s1,s2,s3,s4,s5,s6,s7,s8,s9⟩:=(BX _ BB).2.1.jE;obtain⟨r0,r1⟩:=(BX _ BB).2.2.1.two;have rf:=(BX _ BB).2.2.1.jC;obtain⟨y0,y1,y2,y3,y4,y5,y6⟩:=(BX _ BB).2.2.2.1.seven;by_cases hlt:j<X.own.n
  ·have i2:(j:Int)<(X.own.n:Int):=(by omega);have i3:(0:Int)<=(j:Int):=(by omega);obtain⟨b,off,ea,hbl,hc⟩:=OI.out _ (LW _ BB) (by omega);have c0:=hc j hlt;have EA:=hid ea;rw[ea]at y5;have HC:Hid (∀W,Below w1 w1 W->W.cell? ⟨b,off+j,none⟩=some (.int .i64 (X.own.h j))):=hid (fun W hW=>by
    obtain⟨b',off',ea',_,hc'⟩:=OI.out _ (LW _ hW) (by omega);rw[EA.out]at ea';cases ea';exact hc' j hlt)
   clear hc ea;have HLT:=hid hlt;by_cases he:X.own.h j=cat
   ·have EE:=hid he;have hd:(X.own.h j==cat)=true:=(by simpa using he);have hd':decide (X.own.h j=cat)=true:=decide_eq_true he;clear he;go_wp2_with fail
    go_quiet(fail)
    go_wp2;go_roundw;case rel=>exact⟨j+1,la,lc,by have:=HLT.out;omega,by go_num,by rw[Ob EE.out],by rw[Ob EE.out];exact OW.out.below' (below_drewN (Below.refl _ wr) _),BB.out.trans ((below_drewN (Below.refl _ wr) _).mono BB.out.size)⟩
    case measure=>have:=HLT.out;simp[intOf];omega
   ·have EE:=hid he;have hd:(X.own.h j==cat)=false:=(by simpa using he);have hd':decide (X.own.h j=cat)=false:=decide_eq_false he;clear he;go_wp2_with fail
    go_quiet(fail)
    have bn:Below wr wr (wr.drewN nq):=below_drewN (Below.refl _ wr) nq;have OWn:=hid (OW.out.below' bn);have BBn:=hid (BB.out.trans (bn.mono BB.out.size));clear x0 x1 s0 s1 s2 s3 s4 s5 s6 s7 s8 s9 r0 r1 rf y0 y1 y2 y3 y4 y5 y6;clear bn OW BB c0;generalize wr.drewN nq=W at *;obtain⟨x0,x1⟩:=(BX _ BBn).1.two;obtain⟨s0,s1,s2,s3,s4,s5,s6,s7,s8,s9⟩:=(BX _ BBn).2.1.jE;obtain⟨r0,r1⟩:=(BX _ BBn).2.2.1.two;have rf:=(BX _ BBn).2.2.1.jC;obtain⟨y0,y1,y2,y3,y4,y5,y6⟩:=(BX _ BBn).2.2.2.1.seven;rw[EA.out]at y5;have c0:=HC.out _ BBn.out;have n10:No (.cells #[.int .i64 (X.own.h j)] 2):=⟨⟩;have QO:=hid (OWn.out.alloc n10);have QL:=hid (D9.one (w:=W) (X.own.h j));have sQ:w1.heap.size<=(W.alloc n10).heap.size:=(by have:=BBn.out.size;simp;omega);have bQ:=hid (BBn.out.alloc BBn.out.size n10);have ER:=hid (Vf EE);have lR:(Dz X.own.h cat (j+1)).length<=4194304:=(by have:=Ms X.own.h cat (j+1);omega);go_wp2_with(at_builtin;refine AS _ rfl _ _ rfl w1 (.slice la (Dz X.own.h cat j).length lc) (Dz X.own.h cat j) rfl QO _ 1 1 [X.own.h j] rfl rfl QL (Dz X.own.h cat (j+1)) ER lR sQ ?_;intro a7 c7 w7 o7 g7 h7;have O7:=hid o7;have B7:Hid (Below w1 w1 w7):=hid (bQ.out.trans (below_grown g7 sQ (fun j e=>(World.ownsRow.lt QO j e).1)));clear o7 g7 h7)
    go_roundw;case rel=>exact⟨j+1,a7,c7,by have:=HLT.out;omega,by go_num,rfl,O7,B7⟩
    case measure=>have:=HLT.out;simp[intOf];omega
  ·obtain rfl:j=X.own.n:=by omega
   have i2:¬(X.own.n:Int)<(X.own.n:Int):=(by omega);have ND:Hid (AU.new B wr ⟨la,(Dz X.own.h cat X.own.n).length,lc,Bl (Dz X.own.h cat X.own.n)⟩):=hid (((OW.out.newL (by omega)).low (Nat.le_trans hB HB.out.size)));have CP:=hid (GH OW);have KB:=hid (BX.out _ BB).2.2.2.2;have CC:=(KB.out.jJ ht).1;have c5:=CC.c5;have GF:=hid (KB.out.setOwn (d:=⟨la,(Dz X.own.h cat X.own.n).length,lc,Bl (Dz X.own.h cat X.own.n)⟩) ht EX ND CP);have gf:=GF.out.2.1.choose_spec.jC;have ng1:¬g=w.heap.size:=(by omega);have ng2:¬g=w.heap.size+1+1:=(by omega);have ng3:¬w.heap.size=g:=(by omega);have ng4:¬w.heap.size+1+1=g:=(by omega);have n9:Nv (.slice la (Dz X.own.h cat X.own.n).length lc):=⟨⟩;have A4:=hid ((BX _ BB).1.other (Q:=g) ng1 (i:=t*7+5) n9);have R4:=hid ((BX _ BB).2.2.1.other (Q:=g) ng2 (i:=t*7+5) n9);have L4:Hid (Below B w (wr.setCell ⟨g,t*7+5,none⟩ n9)):=hid ((LB _ BB).setCell (by dsimp only;exact GF.out.2.2) _);clear CC;go_wp2;refine bodyPost_ret (Am _ _ (w.heap.size+1+1) 6 _ _ _ _ Tryz.results88 ((R4.out.jB (i:=0) _).jB (i:=1) _) rfl rfl rfl) rfl ⟨_,0,rfl,(GF.out.1.set R4 (.inl rfl) _).set (R4.out.jB (i:=0) _) (.inl rfl) _,(L4.out.setCell (by dsimp only;omega) _).setCell (by dsimp only;omega) _,.inr ⟨rfl,EH.out.symm,la,lc,rfl⟩⟩
def putAt(L:List Int)(x:Int):Nat:=L.findIdx (fun y=> !decide (y<x))
def DW(L:List Int)(x:Int):List Int:=if L[putAt L x]? =some x then L else L.take (putAt L x)++[x]++L.drop (putAt L x)
theorem TN{L:List Int}{x:Int}{k:Nat}(hk:k<=L.length)(h1:∀j,j<k->Bl L j<x)(h2:k=L.length∨¬Bl L k<x):putAt L x=k:=by
 unfold putAt;by_cases e:k<L.length
 ·rw[List.findIdx_eq e];have h3:¬Bl L k<x:=by
   rcases h2 with h2|h2
   ·omega
   ·exact h2
  refine⟨?_,fun j hj=>?_⟩
  ·simp[Bl,e]at h3;simpa using h3
  ·have:=h1 j hj;have hj':j<L.length:=(by omega);simp[Bl,hj']at this;simpa using this
 ·have ek:k=L.length:=by omega
  subst ek;rw[List.findIdx_eq_length];intro y hy;obtain⟨j,hj,rfl⟩:=List.getElem_of_mem hy;have:=h1 j hj;simp[Bl,hj]at this;simpa using this
theorem QU(A:Addr)(cap:Nat)(L:List Int)(x:Int)(w:World)(hn:L.length<=1048576)(hcap:L.length<=cap)(hcm:cap<=maxLen)(hc:D9 w (some A) L):
 Calls prog 108 #[.slice (some A) L.length cap,.int .i64 x] w fun e w'=>∃va vc,e= .returned (.slice va (DW L x).length vc)/\AQ w' w (.slice va (DW L x).length vc) (DW L x)/\Below w w w':=by
 have hi:=hc.ints;unfold maxLen at hcm;go_enter func108,ntmps108
 go_wp2;go_loop [5] (fun i=>∃k:Nat,k<=L.length/\i= .int .i64 k/\(∀j,j<k->Bl L j<x)) (fun i=>L.length-(intOf i).toNat)
 case atStart=>exact⟨0,Nat.zero_le _,rfl,fun j hj=>by omega⟩
 case round=>
  obtain⟨k,hk,rfl,hall⟩:=hrel;have HA:Hid (∀j,j<k->Bl L j<x):=hall;clear hall;have HC:Hid (D9 w (some A) L):=hc;by_cases hlt':k<L.length
  ·obtain⟨b,off,eA,hlt,hcc⟩:=hi (by omega);obtain rfl:A=⟨b,off,none⟩:=by simpa using eA
   have g1:=hcc k hlt';have hki:(k:Int)<(L.length:Int):=(by omega);clear hcc hc hi;by_cases t:Bl L k<x
   ·go_wp2;go_round;case rel=>
     refine⟨k+1,by omega,by go_num,fun j hj=>?_⟩;by_cases e:j=k
     ·subst e;exact t
     ·exact HA.out j (by omega)
    case measure=>simp[intOf];omega
   ·have ek:putAt L x=k:=TN (by omega) HA (.inr t);obtain⟨T,hT⟩:∃T,T=L.take k:=⟨_,rfl⟩;obtain⟨D,hD⟩:∃D,D=L.drop k:=⟨_,rfl⟩;have lT:Hid (T.length=k):=(by show _=_;rw[hT,List.length_take];omega);have lD:Hid (D.length=L.length-k):=(by show _=_;rw[hD,List.length_drop]);obtain⟨R2,hR2⟩:∃R2,R2=T++[x]:=⟨_,rfl⟩;obtain⟨R3,hR3⟩:∃R3,R3=R2++D:=⟨_,rfl⟩;have lR3:Hid (R3.length=L.length+1):=(by show _=_;rw[hR3,hR2];simp[lT.out,lD.out];omega);have lR2:Hid (R2.length=k+1):=(by show _=_;rw[hR2];simp[lT.out]);have HT:Hid (T=L.take k):=hT;have HD:Hid (D=L.drop k):=hD;have HR2:Hid (R2=T++[x]):=hR2;have HR3:Hid (R3=R2++D):=hR3;have HK:Hid (putAt L x=k):=ek;have ID:D9 w (some ⟨b,off+k,none⟩) D:=(by rw[hD];exact HC.out.drop k);clear hT hD hR2 hR3 ek;have E0:Below w w (w.alloc (.cells #[] 2)):=CY w _;have O0:=AQ.made w w nr;have s0:(w.alloc (.cells #[] 2)).heap.size=w.heap.size+1:=(by simp);have ki:(k:Int)<=(L.length:Int):=(by omega);have kc:(k:Int)<=(cap:Int):=(by omega);cases t2:(Bl L k==x)with
    |true=>
     have HX:Hid (L[k]? =some x):=(by show _=_;have:=beq_iff_eq.1 t2;simp[Bl,hlt']at this;simp[hlt',this]);go_wp2_with(at_builtin;refine AS _ rfl _ _ rfl w _ [] rfl O0 _ _ _ L rfl rfl (HC.out.below E0) L (by simp) (by omega) (by simp) ?_;intro a' c' w' hown' hgrow' hat')
     go_ret;have e:DW L x=L:=(by unfold DW;rw[HK.out,HX.out];simp);rw[e];exact⟨_,_,rfl,hown',E0.grown hgrow' (by simp) (fun j e=>by cases e;exact Nat.le_refl _)⟩
    |false=>
     have HX:Hid (¬L[k]? =some x):=(by show ¬_;have:=beq_eq_false_iff_ne.1 t2;simp[Bl,hlt']at this;simp[hlt',this]);go_wp2_with(first
      |(at_builtin;have hq:=hown2;clear hq;refine AS _ rfl _ _ rfl w (.slice a2 R2.length c2) R2 rfl hown2 _ _ _ D rfl lD (ID.below E2) R3 HR3 (by rw[lR3.out];omega) E2.size ?_;intro a3 c3 w3 hown3 hgrow3 hat3)
      |(at_builtin;have hq:=hown1;clear hq;refine AS _ rfl _ _ rfl w (.slice a1 T.length c1) T rfl (hown1.alloc _) _ _ _ [x] rfl rfl (D9.one x) R2 HR2 (by rw[lR2.out];omega) (Nat.le_trans E1.size (by simp)) ?_;intro a2 c2 w2 hown2 hgrow2 hat2;have E2:Below w w w2:=(E1.alloc E1.size _).grown hgrow2 (Nat.le_trans E1.size (by simp)) (fun j e=>(World.ownsRow.lt hown1 j e).1))
      |(at_builtin;refine AS _ rfl _ _ rfl w (.slice (some ⟨w,0,none⟩) 0 0) [] rfl O0 _ _ _ T rfl lT ((HT.out▸HC.out.take k).below E0) T (by simp) (by rw[lT.out];omega) (by simp) ?_;intro a1 c1 w1 hown1 hgrow1 hat1;have E1:Below w w w1:=E0.grown hgrow1 (by simp) (fun j e=>by cases e;exact Nat.le_refl _)))
     go_ret;have e:DW L x=R3:=by
      unfold DW;rw[HK.out,if_neg HX.out,HR3.out,HR2.out,HT.out,HD.out]
     rw[e];exact⟨_,_,rfl,hown3,E2.grown hgrow3 E2.size (fun j e=>(World.ownsRow.lt hown2 j e).1)⟩
  ·have hkL:k=L.length:=(by omega);have ek:putAt L x=k:=TN (by omega) HA (.inl hkL);have HK:Hid (putAt L x=k):=ek;have HKL:Hid (k=L.length):=hkL;obtain⟨R2,hR2⟩:∃R2,R2=L++[x]:=⟨_,rfl⟩;have HR2:Hid (R2=L++[x]):=hR2;have lR2:Hid (R2.length=L.length+1):=(by show _=_;rw[hR2];simp);have nk:¬(k:Int)<(L.length:Int):=(by omega);clear hR2 ek hkL hc hi;have E0:Below w w (w.alloc (.cells #[] 2)):=CY w _;have O0:=AQ.made w w nr;have kc:(k:Int)<=(cap:Int):=(by omega);have U4:Hid (DW L x=R2):=by
    show _=_;unfold DW;rw[HK.out,if_neg (by rw[List.getElem?_eq_none (by have:=HKL.out;omega)];simp),HR2.out,HKL.out];simp
   go_wp2_with(first
    |(at_builtin;have hq:=hown2;clear hq;refine AS _ rfl _ _ rfl w (.slice a2 R2.length c2) R2 rfl hown2 _ _ _ [] rfl (by have:=HKL.out;simp;omega) (D9.none _ _) R2 (by simp) (by rw[lR2.out];omega) E2.size ?_;intro a3 c3 w3 hown3 hgrow3 hat3)
    |(at_builtin;have hq:=hown1;clear hq;refine AS _ rfl _ _ rfl w (.slice a1 L.length c1) L rfl (hown1.alloc _) _ _ _ [x] rfl rfl (D9.one x) R2 HR2 (by rw[lR2.out];omega) (Nat.le_trans E1.size (by simp)) ?_;intro a2 c2 w2 hown2 hgrow2 hat2;have E2:Below w w w2:=(E1.alloc E1.size _).grown hgrow2 (Nat.le_trans E1.size (by simp)) (fun j e=>(World.ownsRow.lt hown1 j e).1))
    |(at_builtin;refine AS _ rfl _ _ rfl w (.slice (some ⟨w,0,none⟩) 0 0) [] rfl O0 _ _ _ L rfl HKL.out.symm (HC.out.below E0) L (by simp) (by omega) (by simp) ?_;intro a1 c1 w1 hown1 hgrow1 hat1;have E1:Below w w w1:=E0.grown hgrow1 (by simp) (fun j e=>by cases e;exact Nat.le_refl _)))
   all_goals
    go_ret;rw[U4.out];exact⟨_,_,rfl,hown3,E2.grown hgrow3 E2.size (fun j e=>(World.ownsRow.lt hown2 j e).1)⟩
theorem Vn(cap:Nat)(x:Int)(w:World):
 Calls prog 108 #[.slice none 0 cap,.int .i64 x] w fun e w'=>∃va vc,e= .returned (.slice va 1 vc)/\AQ w' w (.slice va 1 vc) [x]/\Below w w w':=by
 have E0:Below w w (w.alloc (.cells #[] 2)):=CY w _;have O0:=AQ.made w w nr;go_enter func108,ntmps108
 go_wp2;go_loopw [5] (fun i wr=>i= .int .i64 0/\wr=w) (fun i _=>(intOf i).toNat)
 case atStart=>exact⟨rfl,rfl⟩
 case round=>
  obtain⟨rfl,rfl⟩:=hrel;go_wp2_with(first
   |(at_builtin;have hq:=hown2;clear hq;refine AS _ rfl _ _ rfl wr (.slice a2 1 c2) [x] rfl hown2 _ _ _ [] rfl rfl (D9.none _ _) [x] rfl (by simp) E2.size ?_;intro a3 c3 w3 hown3 hgrow3 hat3)
   |(at_builtin;have hq:=hown1;clear hq;refine AS _ rfl _ _ rfl wr (.slice a1 0 c1) [] rfl (hown1.alloc _) _ _ _ [x] rfl rfl (D9.one x) [x] rfl (by simp) (Nat.le_trans E1.size (by simp)) ?_;intro a2 c2 w2 hown2 hgrow2 hat2;have E2:Below wr wr w2:=(E1.alloc E1.size _).grown hgrow2 (Nat.le_trans E1.size (by simp)) (fun j e=>(World.ownsRow.lt hown1 j e).1))
   |(at_builtin;refine AS _ rfl _ _ rfl wr (.slice (some ⟨wr,0,none⟩) 0 0) [] rfl O0 _ _ _ [] rfl rfl (D9.none _ _) [] rfl (by simp) (by simp) ?_;intro a1 c1 w1 hown1 hgrow1 hat1;have E1:Below wr wr w1:=E0.grown hgrow1 (by simp) (fun j e=>by cases e;exact Nat.le_refl _)))
  go_ret;exact⟨_,_,rfl,hown3,E2.grown hgrow3 E2.size (fun j e=>(World.ownsRow.lt hown2 j e).1)⟩
theorem Ro(c:AU)(x:Int)(w:World)(hc:c.at w)(hn:c.n<=1048576)(hcap:c.n<=c.k/\c.k<=maxLen):
 Calls prog 108 #[c,.int .i64 x] w fun e w'=>∃va vc,e= .returned (.slice va (DW ((List.range c.n).map c.h) x).length vc)/\AQ w' w (.slice va (DW ((List.range c.n).map c.h) x).length vc) (DW ((List.range c.n).map c.h) x)/\Below w w w':=by
 have el:((List.range c.n).map c.h).length=c.n:=by simp
 cases ha:c.a with
 |some A=>
  have hi:=hc.2.intL;rw[ha]at hi;have h:=QU A c.k ((List.range c.n).map c.h) x w (by rw[el];exact hn) (by rw[el];exact hcap.1) hcap.2 hi;rw[el]at h;exact h
 |none=>
  have h0:c.n=0:=by
   by_cases e:0<c.n
   ·obtain⟨b,off,e',_⟩:=hc.2 e;rw[ha]at e';cases e'
   ·omega
  rw[h0];exact Vn c.k x w
def Ak(c:UInt8):List UInt8->List UInt8×List UInt8×Bool
 |[]=>([],[],false)
 |b::l=>if b=c then([],l,true)else(b::(Ak c l).1,(Ak c l).2.1,(Ak c l).2.2)
theorem UF(c:UInt8):∀(k:Nat) (L:List UInt8),(∀j,j<k->L[j]?≠some c)->L[k]? =some c->Ak c L=(L.take k,L.drop (k+1),true):=by
 intro k;induction k with
 |zero=>
  intro L _ h;cases L with
  |nil=>simp at h
  |cons b l=>simp at h;subst h;simp[Ak]
 |succ k ih=>
  intro L h1 h2;cases L with
  |nil=>simp at h2
  |cons b l=>
   have hb:¬b=c:=(by have:=h1 0 (by omega);simpa using this);have:=ih l (fun j hj=>by have:=h1 (j+1) (by omega);simpa using this) (by simpa using h2);simp[Ak,hb,this]
theorem RN(c:UInt8):∀(L:List UInt8),(∀j,j<L.length->L[j]?≠some c)->Ak c L=(L,[],false):=by
 intro L;induction L with
 |nil=>intro _;rfl
 |cons b l ih=>
  intro h;have hb:¬b=c:=by have:=h 0 (by simp);simpa using this
  have:=ih (fun j hj=>by have:=h (j+1) (by simpa using hj);simpa using this);simp[Ak,hb,this]
theorem Hh(c:UInt8)(L:List UInt8):L=(Ak c L).1++(if (Ak c L).2.2=true then c::(Ak c L).2.1 else[]):=by
 induction L with
 |nil=>rfl
 |cons b l ih=>
  by_cases hb:b=c
  ·subst hb;simp[Ak]
  ·have e:Ak c (b::l)=(b::(Ak c l).1,(Ak c l).2.1,(Ak c l).2.2):=(by simp[Ak,hb]);rw[e];simp only[List.cons_append,List.cons.injEq,true_and];exact ih
theorem My(c:UInt8)(L:List UInt8)(h:(Ak c L).2.2=false):(Ak c L).2.1=[]:=by
 induction L with
 |nil=>rfl
 |cons b l ih=>
  by_cases hb:b=c
  ·subst hb;simp[Ak]at h
  ·simp[Ak,hb]at h ⊢;exact ih h
theorem Cs(c:UInt8)(L:List UInt8):(Ak c L).1.length<=L.length:=by
 have:=congrArg List.length (Hh c L);rw[List.length_append]at this;omega
theorem Dc(c:UInt8)(L:List UInt8):(Ak c L).2.1.length<=L.length:=by
 induction L with
 |nil=>simp[Ak]
 |cons b l ih=>
  by_cases hb:b=c
  ·subst hb;simp[Ak]
  ·simp[Ak,hb];omega
def Bg(b:UInt8):Bool:=decide (48<=b.toNat)&&decide (b.toNat<=57)
def okD(L:List UInt8):Bool:=decide (1<=L.length)&&decide (L.length<=10)&&(decide (L[0]?≠some 48)||decide (L.length<=1))&&L.all Bg
def Do(L:List UInt8):Nat:=L.foldl (fun n b=>n*10+(b.toNat-48)) 0
theorem Jf(L:List UInt8)(b:UInt8):Do (L++[b])=Do L*10+(b.toNat-48):=by simp[Do]
theorem Ww:∀(L:List UInt8),L.all Bg=true->Do L<10^L.length:=by
 intro L;induction h:L.length generalizing L with
 |zero=>intro _;have:L=[]:=List.length_eq_zero_iff.1 h
        subst this;simp[Do]
 |succ n ih=>
  intro hd;rcases List.eq_nil_or_concat L with rfl|⟨l,b,rfl⟩
  ·simp at h
  ·rw[List.concat_eq_append]at *;have hl:l.length=n:=(by simpa using h);rw[Jf];rw[List.all_append,Bool.and_eq_true]at hd;have:=ih l hl hd.1;have hb:=hd.2;simp[Bg]at hb;rw[Nat.pow_succ];omega
def CF(L:List UInt8):Int:=if okD L=true then(Do L:Int)else 0
def Bt(n:Nat):List UInt8:=if h:n<10 then[UInt8.ofNat (48+n)]else Bt (n/10)++[UInt8.ofNat (48+n%10)]
termination_by n
decreasing_by omega
theorem Cr{n:Nat}(h:n<10):Bt n=[UInt8.ofNat (48+n)]:=by rw[Bt,dif_pos h]
theorem Er{n:Nat}(h:¬n<10):Bt n=Bt (n/10)++[UInt8.ofNat (48+n%10)]:=by rw[Bt,dif_neg h]
theorem PN{b:UInt8}(h:Bg b=true):UInt8.ofNat (48+(b.toNat-48))=b:=by
 simp[Bg]at h;have:48+(b.toNat-48)=b.toNat:=by omega
 rw[this];simp
theorem Zq:∀(L:List UInt8),L≠[]->L.all Bg=true->L[0]?≠some 48->1<=Do L:=by
 intro L;induction h:L.length generalizing L with
 |zero=>intro hne;exact absurd (List.length_eq_zero_iff.1 h) hne
 |succ n ih=>
  intro _ hd h0;rcases List.eq_nil_or_concat L with rfl|⟨l,b,rfl⟩
  ·simp at h
  ·rw[List.concat_eq_append]at *;have hl:l.length=n:=(by simpa using h);rw[Jf];rw[List.all_append,Bool.and_eq_true]at hd;by_cases e:l=[]
   ·subst e;simp at h0;have hb:=hd.2;simp[Bg]at hb;have:b.toNat≠48:=fun e=>h0 (UInt8.toNat_inj.1 (by simpa using e));simp[Do];omega
   ·have hp:0<l.length:=List.length_pos_iff.2 e;have:=ih l hl e hd.1 (by rw[List.getElem?_append_left hp]at h0;exact h0);omega
theorem au:∀(L:List UInt8),L≠[]->L.all Bg=true->(L[0]?≠some 48∨L.length<=1)->Bt (Do L)=L:=by
 intro L;induction h:L.length generalizing L with
 |zero=>intro hne;exact absurd (List.length_eq_zero_iff.1 h) hne
 |succ n ih=>
  intro _ hd h0;rcases List.eq_nil_or_concat L with rfl|⟨l,b,rfl⟩
  ·simp at h
  ·rw[List.concat_eq_append]at *;have hl:l.length=n:=(by simpa using h);rw[Jf];rw[List.all_append,Bool.and_eq_true]at hd;have hb:=hd.2;have hb':Bg b=true:=(by simpa using hb);simp[Bg]at hb;by_cases e:l=[]
   ·subst e;have:Do []=0:=rfl;rw[this,Nat.zero_mul,Nat.zero_add,Cr (by omega),PN hb'];rfl
   ·have hp:0<l.length:=List.length_pos_iff.2 e;have h1:l[0]?≠some 48:=by
     rcases h0 with h0|h0
     ·rw[List.getElem?_append_left hp]at h0;exact h0
     ·omega
    have hv:=Zq l e hd.1 h1;rw[Er (by omega)];have e1:(Do l*10+(b.toNat-48))/10=Do l:=(by omega);have e2:(Do l*10+(b.toNat-48))%10=b.toNat-48:=(by omega);rw[e1,e2,ih l hl e hd.1 (.inl h1),PN hb']
theorem RV{L:List UInt8}(h:okD L=true):Bt (Do L)=L:=by
 simp only[okD,Bool.and_eq_true,Bool.or_eq_true,decide_eq_true_eq]at h;obtain⟨⟨⟨h1,_⟩,h2⟩,h3⟩:=h;exact au L (fun e=>by subst e;simp at h1) h3 h2
def DO(p:List UInt8):Bool:=okD (Ak 58 p).1&&okD (Ak 58 p).2.1
def LL(p:List UInt8):Int×Int:=(CF (Ak 58 p).1,CF (Ak 58 p).2.1)
def gather:Nat->List UInt8->Bool->List (Int×Int)->Option (List (Int×Int))
 |_,_,false,cats=>some cats
 |0,_,true,_=>none
 |n+1,rest,true,cats=>if DO (Ak 44 rest).1=true then gather n (Ak 44 rest).2.1 (Ak 44 rest).2.2 (cats++[LL (Ak 44 rest).1])else none
def Ex(c:Int×Int):List UInt8:=44::(Bt c.1.toNat++58::Bt c.2.toNat)
def GR(base:Int)(cats:List (Int×Int)):List UInt8:=Bt base.toNat++(cats.map Ex).flatten
theorem JI(base:Int)(cats:List (Int×Int))(c:Int×Int):GR base (cats++[c])=GR base cats++Ex c:=by simp[GR]
theorem Vg{p:List UInt8}(h:DO p=true):Ex (LL p)=44::p:=by
 unfold DO at h;rw[Bool.and_eq_true]at h;have hj:=Hh 58 p;have hm:(Ak 58 p).2.2=true:=by
  cases hf:(Ak 58 p).2.2 with
  |true=>rfl
  |false=>
   have:=My 58 p hf;rw[this]at h;simp[okD]at h
 rw[hm,if_pos rfl]at hj;unfold Ex LL CF;rw[if_pos h.1,if_pos h.2];simp only[Int.toNat_natCast];rw[RV h.1,RV h.2,<-hj]
end Go.Proofs.YtblapfnglojgjaaGreatDoor
