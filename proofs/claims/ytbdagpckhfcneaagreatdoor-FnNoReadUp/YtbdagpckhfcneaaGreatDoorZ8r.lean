import Derived.WalkSmall
import Derived.Test.YtbdagpckhfcneaaGreatDoorZ7r
set_option maxRecDepth 100000
set_option maxHeartbeats 16000000
namespace Go.Proofs.YtbdagpckhfcneaaGreatDoor
open Go Go.RowKit Go.Deep Go.Maps Go.BigFrame Go.Shelf Go.Proofs.Tryz
variable {w:World}{B g ca t:Nat}{vo:Value}{lt:List Ae}{lo:List Ab}
theorem Ak{F:Func}(tmps:Array Value)(W:World)(P n:Nat)(x y u v:Value)(hF:F.results=#[.cell n 27,.tmp (n+1),.tmp (n+2)])(h:Ag W P (.cells #[x,y] 27))(h2:tmps[n]? =some (.pointer P))(h3:tmps[n+1]? =some u)(h4:tmps[n+2]? =some v):
 (results F tmps).run prog W= .ok (.tuple #[.agg #[x,y],u,v]) W:=by
 obtain⟨z0,z1⟩:=h.two;simp[results,hF,go_sem,h2,h3,h4,z0,z1]
theorem Bz.jJ(h:Bz w B (.slice g lt.length ca) vo lt lo)(ht:t<lt.length):E9 w g (t*7) lt[t]/\g<w.heap.size:=by
 obtain⟨b,off,e,hlt,hc⟩:=h.t.lies (fun x hx=>(h.tn x hx).at) (by omega);simp only[Option.some.injEq,Addr.mk.injEq,and_true]at e;obtain⟨rfl,rfl⟩:=e;have h1:=(hc t ht).1;have e1:AY lt t=lt[t]:=by simp[AY,ht]
 rw[e1,Nat.zero_add]at h1;exact⟨h1,hlt⟩
theorem Bz.jF{co:Nat}{vt:Value}(h:Bz w B vt (.slice g lo.length co) lt lo)(ht:t<lo.length)(hd:∀x∈lo,x.data.size<=maxLen):Cy w g (t*10) lo[t]/\g<w.heap.size:=by
 obtain⟨b,off,e,hlt,hc⟩:=h.o.lies (fun x hx=>⟨(h.on x hx).1.1,(h.on x hx).2.1.1,(h.on x hx).2.2.1.1,(h.on x hx).2.2.2.1,hd x hx⟩) (by omega);simp only[Option.some.injEq,Addr.mk.injEq,and_true]at e;obtain⟨rfl,rfl⟩:=e;have h1:=(hc t ht).1;have e1:Aa lo t=lo[t]:=by simp[Aa,ht]
 rw[e1,Nat.zero_add]at h1;exact⟨h1,hlt⟩
theorem Fa{α:Type}{l:List α}(ht:t<l.length):l.set t l[t]=l:=by
 refine List.ext_getElem (by simp) fun i h1 h2=>?_;rw[List.getElem_set];split
 ·rename_i e;subst e;rfl
 ·rfl
theorem Bz.setLab(h:Bz w B (.slice g lt.length ca) vo lt lo){b:Int}{d:Aq}(ht:t<lt.length){X:Ae}(hX:X=lt[t])(hd:d.new B w):
 Bz ((w.setCell ⟨g,t*7+1,none⟩ (.int .i64 b)).setCell ⟨g,t*7+2,none⟩ (.slice d.a d.n d.k)) B (.slice g lt.length ca) vo (lt.set t ⟨X.id,b,d,X.b2,X.c2,X.own,X.made⟩) lo/\(∃cur,Ag w g (.cells cur 42))/\B<=g:=by
 have hn:=h.tn _ (List.getElem_mem ht);have hc:=h.tc _ (List.getElem_mem ht);rw[<-hX]at hn hc;obtain⟨k1,⟨cur,hcur⟩,hg⟩:=h.setT (x:=⟨X.id,b,X.c1,X.b2,X.c2,X.own,X.made⟩) (u:= .int .i64 b) ht (i:=1) (by omega) (by rw[<-hX];rfl) hn hc;have el:(lt.set t (⟨X.id,b,X.c1,X.b2,X.c2,X.own,X.made⟩:Ae)).length=lt.length:=by simp
 have kl:=As (i:=t*7+1) hcur (by decide) (.int .i64 b);have ht':t<(lt.set t (⟨X.id,b,X.c1,X.b2,X.c2,X.own,X.made⟩:Ae)).length:=by rw[el];exact ht
 obtain⟨k2,_,_⟩:=k1.setT (x:=⟨X.id,b,d,X.b2,X.c2,X.own,X.made⟩) (u:= .slice d.a d.n d.k) ht' (i:=2) (by omega) (by rw[List.getElem_set_self];rfl) ⟨hd.keeps kl,hn.2.1.keeps kl,hn.2.2.keeps kl⟩ hc;rw[List.set_set]at k2;have e2:(lt.set t (⟨X.id,b,d,X.b2,X.c2,X.own,X.made⟩:Ae)).length=lt.length:=by simp
 rw[e2]at k2;exact⟨k2,⟨cur,hcur⟩,hg⟩
def Fe(c:Aq):Prop:=∀j,j<c.n->∀i,i<j->c.f i<c.f j
def Il(x:Ae)(s:Al):Bool:=Cv x.b1 x.c1.n x.c1.f x.c1.g x.own.n x.own.h s.b1 s.c1.n s.c1.f s.c1.g&&Cv s.b1 s.c1.n s.c1.f s.c1.g x.own.n x.own.h x.b2 x.c2.n x.c2.f x.c2.g
theorem Qz(lt:List Ae)(lo:List Ab)(g ca:Nat)(oa:Option Addr)(co B:Nat)(w:World)(st:Bz w B (.slice g lt.length ca) (.slice oa lo.length co) lt lo)(hB:B<=w.heap.size)(t:Nat)(ht:t<lt.length)(X:Ae)(hX:X=lt[t])(xs:X.small)(s:Al)(hs:s.at w)(hk:s.kind=12)(hn1:s.c1.n<=1048576)
 (r1:Fe X.c1)(r2:Fe X.c2)(r3:Fe s.c1):
 Calls prog 78 #[.agg #[.slice g lt.length ca,.slice oa lo.length co],.int .i64 t,.agg s] w fun e w'=>∃(x:Ae) (c:Int),e= .returned (.tuple #[.agg #[.slice g lt.length ca,.slice oa lo.length co],.int .i64 c,.string ⟨#[]⟩])/\Bz w' B (.slice g lt.length ca) (.slice oa lo.length co) (lt.set t x) lo/\Below B w w'/\((c=4/\Il X s=false/\x=X)∨(c=0/\Il X s=true/\∃d:Aq,s.c1.same d/\x=⟨X.id,s.b1,d,X.b2,X.c2,X.own,X.made⟩)):=by
 obtain⟨th,kd,id_,to_,cat,dat,sb1,sc1,sb2,sc2⟩:=s;simp only at hk hn1 r3 ⊢;subst hk;have XN:Hid (X.new B w/\(X.own.n<=X.own.k/\X.own.k<=maxLen)):=hid (by rw[hX];exact⟨st.tn _ (List.getElem_mem ht),st.tc _ (List.getElem_mem ht)⟩);have XA:Hid (X.at w):=hid XN.out.1.at;obtain⟨CW,gl⟩:=st.jJ ht;rw[<-hX]at CW;have n3:No (.cells #[th,.int .i64 12,id_,to_,cat,.string dat,sb1,sc1,sb2,sc2] 32):=⟨⟩;have n4:No (.cells #[.slice g lt.length ca,.slice oa lo.length co] 27):=⟨⟩;have n5:No (.cells #[.slice none 0 0,.slice none 0 0] 27):=⟨⟩;have n1:Nw (((w.alloc n4).alloc n3).alloc n5):=⟨⟩;have b3:Below w w n1:=((Bd w _).alloc (by simp) _).alloc (by simp;omega) _;have CC:=CW.below gl b3;have q0:(n1:World).cell? ⟨g,t*7,none⟩=some (.int .i64 X.id):=CC.c0;have q1:(n1:World).cell? ⟨g,t*7+1,none⟩=some (.int .i64 X.b1):=CC.c1;have q2:(n1:World).cell? ⟨g,t*7+2,none⟩=some (.slice X.c1.a X.c1.n X.c1.k):=CC.c2;have q3:(n1:World).cell? ⟨g,t*7+3,none⟩=some (.int .i64 X.b2):=CC.c3;have q4:(n1:World).cell? ⟨g,t*7+4,none⟩=some (.slice X.c2.a X.c2.n X.c2.k):=CC.c4;have q5:(n1:World).cell? ⟨g,t*7+5,none⟩=some (.slice X.own.a X.own.n X.own.k):=CC.c5;have q6:(n1:World).cell? ⟨g,t*7+6,none⟩=some (.int .i64 X.made):=CC.c6;have n2:No (.cells X 42):=⟨⟩;have b0:Below w w ((n1:World).alloc n2):=(((Bd w _).alloc (by simp) _).alloc (by simp;omega) _).alloc (by simp;omega) _;have A0:Ag ((n1:World).alloc n2) w n4:=(((Ag.new w _).alloc _).alloc _).alloc _;have P0:Ag ((n1:World).alloc n2) (w.heap.size+1) n3:=by have:=((Ag.new (w.alloc n4) n3).alloc n5).alloc n2;simpa using this
 have R0:Ag ((n1:World).alloc n2) (w.heap.size+1+1) n5:=by have:=(Ag.new ((w.alloc n4).alloc n3) n5).alloc n2;simpa using this
 have X0:Ag ((n1:World).alloc n2) (w.heap.size+1+1+1) n2:=by have:=Ag.new n1 n2;simpa using this
 have HS:=hid (st.below b0);have HB:=hid b0;have HA:=hid A0;have HP:=hid P0;have HR:=hid R0;have HX:=hid X0;have SA:=hid hs;have EX:=hid hX;have i0:(0:Int)<=(t:Int):=by omega
 have i1:(t:Int)<(lt.length:Int):=by omega
 have n6:Na #[sb1,sc1]:=⟨⟩;have F1:Hid (∀W,Below w w W->Calls prog 113 #[.agg #[X.b1,X.c1],X.own,.agg n6] W fun e w'=>e= .returned (.bool (Cv X.b1 X.c1.n X.c1.f X.c1.g X.own.n X.own.h sb1 sc1.n sc1.f sc1.g))/\Below W W w'):=hid (fun W hW=>Gg _ _ _ _ X.c1.f X.c1.g _ _ _ X.own.h _ _ _ _ sc1.f sc1.g W xs.1 hn1 (XA.out.2.2.1) ((XA.out.below hW).1.2) ((SA.out.below hW).1.2) ((XA.out.below hW).2.2.2) r1 r3);have F2:Hid (∀W,Below w w W->Calls prog 113 #[.agg n6,X.own,.agg #[X.b2,X.c2]] W fun e w'=>e= .returned (.bool (Cv sb1 sc1.n sc1.f sc1.g X.own.n X.own.h X.b2 X.c2.n X.c2.f X.c2.g))/\Below W W w'):=hid (fun W hW=>Gg _ _ _ _ sc1.f sc1.g _ _ _ X.own.h _ _ _ _ X.c2.f X.c2.g W hn1 xs.2.1 (XA.out.2.2.1) ((SA.out.below hW).1.2) ((XA.out.below hW).2.1.2) ((XA.out.below hW).2.2.2) r3 r2);have CLB:Hid (∀W,Below w w W->Calls prog 114 #[.agg n6] W fun e w'=>∃d:Aq,e= .returned (.agg #[sb1,d])/\sc1.same d/\d.new W w'/\Below W W w'):=hid (fun W hW=>Cs sb1 sc1 W (SA.out.below hW).1 hn1);have ER:Hid (Il X ⟨th,12,id_,to_,cat,dat,sb1,sc1,sb2,sc2⟩=(Cv X.b1 X.c1.n X.c1.f X.c1.g X.own.n X.own.h sb1 sc1.n sc1.f sc1.g&&Cv sb1 sc1.n sc1.f sc1.g X.own.n X.own.h X.b2 X.c2.n X.c2.f X.c2.g)):=hid rfl;generalize Cv X.b1 X.c1.n X.c1.f X.c1.g X.own.n X.own.h sb1 sc1.n sc1.f sc1.g=f1 at *;generalize Cv sb1 sc1.n sc1.f sc1.g X.own.n X.own.h X.b2 X.c2.n X.c2.f X.c2.g=f2 at *;generalize Il X ⟨th,12,id_,to_,cat,dat,sb1,sc1,sb2,sc2⟩=rb at *;clear CC CW b3 b0 A0 P0 R0 X0 hs hX st;go_enter func78,ntmps78
 have WV:=hid HB.out;obtain⟨x0,x1⟩:=HA.out.two;obtain⟨s0,s1,s2,s3,s4,s5,s6,s7,s8,s9⟩:=HP.out.jE;obtain⟨y0,y1,y2,y3,y4,y5,y6⟩:=HX.out.seven;go_wp2_with fail
 have n7:Nv (.slice g lt.length ca):=⟨⟩;have BX:Hid (∀W,Below ((n1:World).alloc n2).heap.size ((n1:World).alloc n2) W->Ag W w n4/\Ag W (w.heap.size+1) n3/\Ag W (w.heap.size+1+1) n5/\Ag W (w.heap.size+1+1+1) n2/\Bz W B n7 (.slice oa lo.length co) lt lo):=hid (fun W hW=>⟨HA.out.below hW,HP.out.below hW,HR.out.below hW,HX.out.below hW,HS.out.below hW⟩);have LW:Hid (∀W,Below ((n1:World).alloc n2).heap.size ((n1:World).alloc n2) W->Below w w W):=hid (fun W hW=>Af HB hW);have LB:Hid (∀W,Below ((n1:World).alloc n2).heap.size ((n1:World).alloc n2) W->Below B w W):=hid (fun W hW=>(Af HB hW).mono hB);have V0:=hid (Below.refl ((n1:World).alloc n2).heap.size ((n1:World).alloc n2));clear x0 x1 s0 s1 s2 s3 s4 s5 s6 s7 s8 s9 y0 y1 y2 y3 y4 y5 y6 q0 q1 q2 q3 q4 q5 q6 HA HP HR HX HS WV;generalize ((n1:World).alloc n2)=V at *;refine(F1 _ (LW _ V0)).mono ?_;rintro e w1 ⟨rfl,hb1⟩;have V1:=hid (Af V0 hb1);clear hb1;obtain⟨x0,x1⟩:=(BX _ V1).1.two;obtain⟨s0,s1,s2,s3,s4,s5,s6,s7,s8,s9⟩:=(BX _ V1).2.1.jE;obtain⟨r0,r1⟩:=(BX _ V1).2.2.1.two;have rf:=(BX _ V1).2.2.1.jC;obtain⟨y0,y1,y2,y3,y4,y5,y6⟩:=(BX _ V1).2.2.2.1.seven;cases f1 with
 |false=>
  simp only[Bool.false_and]at ER;go_wp2;have RB:=hid (BX.out _ V1).2.2.1;have KB:=hid (BX.out _ V1).2.2.2.2;refine bodyPost_ret (Ak _ _ (w.heap.size+1+1) 6 _ _ _ _ Tryz.results78 ((RB.out.jB (i:=0) _).jB (i:=1) _) rfl rfl rfl) rfl ⟨X,4,rfl,?_,?_,.inl ⟨rfl,ER,rfl⟩⟩
  ·rw[EX.out,Fa];exact(KB.out.set RB (.inl rfl) _).set (RB.out.jB (i:=0) _) (.inl rfl) _
  ·exact((LB _ V1).setCell (by dsimp only;omega) _).setCell (by dsimp only;omega) _
 |true=>
 go_wp2_with fail
 refine(F2 _ (LW _ V1)).mono ?_;rintro e w2 ⟨rfl,hb2⟩;have V2:=hid (Af V1 hb2);clear hb2;clear x0 x1 s0 s1 s2 s3 s4 s5 s6 s7 s8 s9 r0 r1 rf y0 y1 y2 y3 y4 y5 y6;obtain⟨x0,x1⟩:=(BX _ V2).1.two;obtain⟨s0,s1,s2,s3,s4,s5,s6,s7,s8,s9⟩:=(BX _ V2).2.1.jE;obtain⟨r0,r1⟩:=(BX _ V2).2.2.1.two;have rf:=(BX _ V2).2.2.1.jC;obtain⟨y0,y1,y2,y3,y4,y5,y6⟩:=(BX _ V2).2.2.2.1.seven;cases f2 with
 |false=>
  simp only[Bool.and_false]at ER;go_wp2;have RB:=hid (BX.out _ V2).2.2.1;have KB:=hid (BX.out _ V2).2.2.2.2;refine bodyPost_ret (Ak _ _ (w.heap.size+1+1) 6 _ _ _ _ Tryz.results78 ((RB.out.jB (i:=0) _).jB (i:=1) _) rfl rfl rfl) rfl ⟨X,4,rfl,?_,?_,.inl ⟨rfl,ER,rfl⟩⟩
  ·rw[EX.out,Fa];exact(KB.out.set RB (.inl rfl) _).set (RB.out.jB (i:=0) _) (.inl rfl) _
  ·exact((LB _ V2).setCell (by dsimp only;omega) _).setCell (by dsimp only;omega) _
 |true=>
 simp only[Bool.and_true]at ER;have EG:Hid (∀args w,(callFunc 114 args).run prog w= .ok (.enter 114 args) w):=hid (enters_of func114 (by kernel_rfl) rfl);have D0:=hid (Az V2);clear x0 x1 s0 s1 s2 s3 s4 s5 s6 s7 s8 s9 r0 r1 rf y0 y1 y2 y3 y4 y5 y6;obtain⟨x0,x1⟩:=(BX _ D0).1.two;obtain⟨s0,s1,s2,s3,s4,s5,s6,s7,s8,s9⟩:=(BX _ D0).2.1.jE;obtain⟨r0,r1⟩:=(BX _ D0).2.2.1.two;have rf:=(BX _ D0).2.2.1.jC;obtain⟨y0,y1,y2,y3,y4,y5,y6⟩:=(BX _ D0).2.2.2.1.seven;have CP:Hid (Calls prog 114 #[.agg n6] w2.drew fun e w'=>∃v,e= .returned v/\(∃d:Aq,v= .agg #[sb1,d]/\sc1.same d/\d.new w2.drew.heap.size w'/\Below w2.drew.heap.size w2.drew w')):=hid ((CLB _ (LW _ D0)).mono fun _ _ ⟨d,e1,h1,h2,h3⟩=>⟨_,e1,d,rfl,h1,h2,h3⟩);go_wp2_with fail
 go_region_law(first
  |(refine Dc (by rfl) 114 _ _ (by rfl) EG _ (by rfl) _ CP ?_;rintro v w3 ⟨d,rfl,sd,nd,b3⟩;have V3:=hid (Af D0 b3);have SD:=hid sd;have ND:=hid (nd.low (Nat.le_trans hB (LW _ D0).size));obtain⟨m0,m1⟩:=(BX _ V3).1.two;have KB:=hid (BX.out _ V3).2.2.2.2;have CC:=(KB.out.jJ ht).1;have c1:=CC.c1;have c2:=CC.c2;have GF:=hid (KB.out.setLab (b:=sb1) (d:=d) ht EX ND);have gf:=GF.out.2.1.choose_spec.jC;clear sd nd b3 CC))
 all_goals(
  have ng1:g≠w.heap.size:=by omega
  have ng2:g≠w.heap.size+1+1:=by omega
  have K4:Hid (Bz ((w3.setCell ⟨g,t*7+1,none⟩ (.int .i64 sb1)).setCell ⟨g,t*7+1+1,none⟩ (.slice d.a d.n d.k)) B n7 (.slice oa lo.length co) (lt.set t ⟨X.id,sb1,d,X.b2,X.c2,X.own,X.made⟩) lo):=hid GF.out.1;have A4:=hid (((BX _ V3).1.other ng1 (i:=t*7+1) (.int .i64 sb1)).other ng1 (i:=t*7+1+1) (.slice d.a d.n d.k));have R4:=hid (((BX _ V3).2.2.1.other ng2 (i:=t*7+1) (.int .i64 sb1)).other ng2 (i:=t*7+1+1) (.slice d.a d.n d.k));have L4:Hid (Below B w ((w3.setCell ⟨g,t*7+1,none⟩ (.int .i64 sb1)).setCell ⟨g,t*7+1+1,none⟩ (.slice d.a d.n d.k))):=hid (((LB _ V3).setCell (by dsimp only;exact GF.out.2.2) _).setCell (by dsimp only;exact GF.out.2.2) _);clear GF gf c1 c2 KB m0 m1 x0 x1 s0 s1 s2 s3 s4 s5 s6 s7 s8 s9 r0 r1 rf y0 y1 y2 y3 y4 y5 y6 ND;generalize (w3.setCell ⟨g,t*7+1,none⟩ (.int .i64 sb1)).setCell ⟨g,t*7+1+1,none⟩ (.slice d.a d.n d.k)=W4 at *;obtain⟨x0,x1⟩:=A4.out.two;obtain⟨r0,r1⟩:=R4.out.two;have rf:=R4.out.jC;go_wp2;refine bodyPost_ret (Ak _ _ (w.heap.size+1+1) 6 _ _ _ _ Tryz.results78 ((R4.out.jB (i:=0) _).jB (i:=1) _) rfl rfl rfl) rfl ⟨⟨X.id,sb1,d,X.b2,X.c2,X.own,X.made⟩,0,rfl,(K4.out.set R4 (.inl rfl) _).set (R4.out.jB (i:=0) _) (.inl rfl) _,(L4.out.setCell (by dsimp only;omega) _).setCell (by dsimp only;omega) _,.inr ⟨rfl,ER,d,SD,rfl⟩⟩)
variable {w:World}{B j:Nat}{l:List Int}{h:Nat->Int}{c:Int}
theorem AE.newL{c:Nat}{a:Option Addr}(h:AE w B (.slice a l.length c) l)(hl:l.length<=1048576):AH.new B w ⟨a,l.length,c,AV l⟩:=by
 refine PN ?_ hl;have e:(List.range l.length).map (AV l)=l:=List.ext_getElem (by simp) fun i h1 h2=>by simp[AV,h2]
 rw[e];exact h
theorem AE.below'{w':World}{v:Value}(h:AE w B v l)(hb:Below w w w'):AE w' B v l:=World.ownsRow.kept (row:=none) h ⟨hb.os,hb.tape,hb.output,hb.size,fun k hk _=>hb.block k hk⟩ (by cases v.ownBlock<;>simp)
theorem Bz.setOwn{g ca:Nat}{vo:Value}{lt:List Ae}{lo:List Ab}(h:Bz w B (.slice g lt.length ca) vo lt lo){t:Nat}{d:AH}(ht:t<lt.length){X:Ae}(hX:X=lt[t])(hd:d.new B w)(hdc:d.n<=d.k/\d.k<=maxLen):
 Bz (w.setCell ⟨g,t*7+5,none⟩ (.slice d.a d.n d.k)) B (.slice g lt.length ca) vo (lt.set t ⟨X.id,X.b1,X.c1,X.b2,X.c2,d,X.made⟩) lo/\(∃cur,Ag w g (.cells cur 42))/\B<=g:=by
 have hn:=h.tn _ (List.getElem_mem ht);rw[<-hX]at hn;obtain⟨k1,hcur,hg⟩:=h.setT (x:=⟨X.id,X.b1,X.c1,X.b2,X.c2,d,X.made⟩) (u:= .slice d.a d.n d.k) ht (i:=5) (by omega) (by rw[<-hX];rfl) ⟨hn.1,hn.2.1,hd⟩ hdc;have el:(lt.set t (⟨X.id,X.b1,X.c1,X.b2,X.c2,d,X.made⟩:Ae)).length=lt.length:=by simp
 rw[el]at k1;exact⟨k1,hcur,hg⟩
def CR(h:Nat->Int)(c:Int)(j:Nat):List Int:=((List.range j).map h).filter (fun y=> !decide (y=c))
theorem Ni(e:h j=c):CR h c (j+1)=CR h c j:=by
 unfold CR;rw[List.range_succ,List.map_append,List.filter_append];simp[e]
theorem Uj(e:h j≠c):CR h c (j+1)=CR h c j++[h j]:=by
 unfold CR;rw[List.range_succ,List.map_append,List.filter_append];simp[e]
theorem KC(h:Nat->Int)(c:Int)(j:Nat):(CR h c j).length<=j:=by
 unfold CR;refine Nat.le_trans (List.length_filter_le _ _) ?_;simp
theorem Qm(lt:List Ae)(lo:List Ab)(g ca:Nat)(oa:Option Addr)(co B:Nat)(w:World)(st:Bz w B (.slice g lt.length ca) (.slice oa lo.length co) lt lo)(hB:B<=w.heap.size)(t:Nat)(ht:t<lt.length)(X:Ae)(hX:X=lt[t])(xs:X.small)(s:Al)(hk:s.kind=14):
 Calls prog 78 #[.agg #[.slice g lt.length ca,.slice oa lo.length co],.int .i64 t,.agg s] w fun e w'=>∃(x:Ae) (c:Int),e= .returned (.tuple #[.agg #[.slice g lt.length ca,.slice oa lo.length co],.int .i64 c,.string ⟨#[]⟩])/\Bz w' B (.slice g lt.length ca) (.slice oa lo.length co) (lt.set t x) lo/\Below B w w'/\((c=4/\hasB X.own.n X.own.h s.cat=false/\x=X)∨(c=0/\hasB X.own.n X.own.h s.cat=true/\∃(a:Option Addr) (cc:Nat),x=⟨X.id,X.b1,X.c1,X.b2,X.c2,⟨a,(CR X.own.h s.cat X.own.n).length,cc,AV (CR X.own.h s.cat X.own.n)⟩,X.made⟩)):=by
 obtain⟨th,kd,id_,to_,cat,dat,sb1,sc1,sb2,sc2⟩:=s;simp only at hk ⊢;subst hk;have XN:Hid (X.new B w/\(X.own.n<=X.own.k/\X.own.k<=maxLen)):=hid (by rw[hX];exact⟨st.tn _ (List.getElem_mem ht),st.tc _ (List.getElem_mem ht)⟩);have XA:Hid (X.at w):=hid XN.out.1.at;have on1:X.own.n<=1048576:=xs.2.2;obtain⟨CW,gl⟩:=st.jJ ht;rw[<-hX]at CW;have n4:No (.cells #[th,.int .i64 14,id_,to_,cat,.string dat,sb1,sc1,sb2,sc2] 32):=⟨⟩;have n5:No (.cells #[.slice g lt.length ca,.slice oa lo.length co] 27):=⟨⟩;have n6:No (.cells #[.slice none 0 0,.slice none 0 0] 27):=⟨⟩;have n1:Nw (((w.alloc n5).alloc n4).alloc n6):=⟨⟩;have b3:Below w w n1:=((Bd w _).alloc (by simp) _).alloc (by simp;omega) _;have CC:=CW.below gl b3;have q0:(n1:World).cell? ⟨g,t*7,none⟩=some (.int .i64 X.id):=CC.c0;have q1:(n1:World).cell? ⟨g,t*7+1,none⟩=some (.int .i64 X.b1):=CC.c1;have q2:(n1:World).cell? ⟨g,t*7+2,none⟩=some (.slice X.c1.a X.c1.n X.c1.k):=CC.c2;have q3:(n1:World).cell? ⟨g,t*7+3,none⟩=some (.int .i64 X.b2):=CC.c3;have q4:(n1:World).cell? ⟨g,t*7+4,none⟩=some (.slice X.c2.a X.c2.n X.c2.k):=CC.c4;have q5:(n1:World).cell? ⟨g,t*7+5,none⟩=some (.slice X.own.a X.own.n X.own.k):=CC.c5;have q6:(n1:World).cell? ⟨g,t*7+6,none⟩=some (.int .i64 X.made):=CC.c6;have n3:No (.cells X 42):=⟨⟩;have b0:Below w w ((n1:World).alloc n3):=(((Bd w _).alloc (by simp) _).alloc (by simp;omega) _).alloc (by simp;omega) _;have A0:Ag ((n1:World).alloc n3) w n5:=(((Ag.new w _).alloc _).alloc _).alloc _;have P0:Ag ((n1:World).alloc n3) (w.heap.size+1) n4:=by have:=((Ag.new (w.alloc n5) n4).alloc n6).alloc n3;simpa using this
 have R0:Ag ((n1:World).alloc n3) (w.heap.size+1+1) n6:=by have:=(Ag.new ((w.alloc n5).alloc n4) n6).alloc n3;simpa using this
 have X0:Ag ((n1:World).alloc n3) (w.heap.size+1+1+1) n3:=by have:=Ag.new n1 n3;simpa using this
 have HS:=hid (st.below b0);have HB:=hid b0;have HA:=hid A0;have HP:=hid P0;have HR:=hid R0;have HX:=hid X0;have EX:=hid hX;have i0:(0:Int)<=(t:Int):=by omega
 have i1:(t:Int)<(lt.length:Int):=by omega
 have F1:Hid (∀W,Below w w W->Calls prog 115 #[X.own,cat] W fun e w'=>e= .returned (.bool (hasB X.own.n X.own.h cat))/\w'=W):=hid (fun W hW=>Ja _ _ _ X.own.h cat W XA.out.2.2.1 ((XA.out.below hW).2.2.2));have OI:Hid (∀W,Below w w W->Bi W X.own.a X.own.n X.own.h):=hid (fun W hW=>(XA.out.below hW).2.2.2);obtain⟨hb_,eh⟩:∃b,b=hasB X.own.n X.own.h cat:=⟨_,rfl⟩;rw[<-eh]at F1;have EH:=hid eh;clear CC CW b3 b0 A0 P0 R0 X0 hX st eh;go_enter func78,ntmps78
 obtain⟨x0,x1⟩:=HA.out.two;obtain⟨s0,s1,s2,s3,s4,s5,s6,s7,s8,s9⟩:=HP.out.jE;obtain⟨y0,y1,y2,y3,y4,y5,y6⟩:=HX.out.seven;go_wp2_with fail
 have n7:No (.cells #[th,.int .i64 14,id_,to_,cat,.string dat,sb1,sc1,sb2,sc2] 32):=⟨⟩;have n8:No (.cells X 42):=⟨⟩;have n2:Nw ((((w.alloc n5).alloc n7).alloc n6).alloc n8):=⟨⟩;have BX:Hid (∀W,Below (n2:World).heap.size n2 W->Ag W w n5/\Ag W (w.heap.size+1) n7/\Ag W (w.heap.size+1+1) n6/\Ag W (w.heap.size+1+1+1) n8/\Bz W B (.slice g lt.length ca) (.slice oa lo.length co) lt lo):=hid (fun W hW=>⟨HA.out.below hW,HP.out.below hW,HR.out.below hW,HX.out.below hW,HS.out.below hW⟩);have LW:Hid (∀W,Below (n2:World).heap.size n2 W->Below w w W):=hid (fun W hW=>Af HB hW);have LB:Hid (∀W,Below (n2:World).heap.size n2 W->Below B w W):=hid (fun W hW=>(Af HB hW).mono hB);have V0:=hid (Below.refl (n2:World).heap.size n2);clear x0 x1 s0 s1 s2 s3 s4 s5 s6 s7 s8 s9 y0 y1 y2 y3 y4 y5 y6 q0 q1 q2 q3 q4 q5 q6 HA HP HR HX HS;generalize (n2:World)=V at *;refine(F1 _ (LW _ V0)).mono ?_;rintro e w1 ⟨rfl,rfl⟩;obtain⟨x0,x1⟩:=(BX _ V0).1.two;obtain⟨s0,s1,s2,s3,s4,s5,s6,s7,s8,s9⟩:=(BX _ V0).2.1.jE;obtain⟨r0,r1⟩:=(BX _ V0).2.2.1.two;have rf:=(BX _ V0).2.2.1.jC;obtain⟨y0,y1,y2,y3,y4,y5,y6⟩:=(BX _ V0).2.2.2.1.seven;cases hb_ with
 |false=>
  go_wp2;have RB:=hid (BX.out _ V0).2.2.1;have KB:=hid (BX.out _ V0).2.2.2.2;refine bodyPost_ret (Ak _ _ (w.heap.size+1+1) 6 _ _ _ _ Tryz.results78 ((RB.out.jB (i:=0) _).jB (i:=1) _) rfl rfl rfl) rfl ⟨X,4,rfl,?_,?_,.inl ⟨rfl,EH.out.symm,rfl⟩⟩
  ·rw[EX.out,Fa];exact(KB.out.set RB (.inl rfl) _).set (RB.out.jB (i:=0) _) (.inl rfl) _
  ·exact((LB _ V0).setCell (by dsimp only;omega) _).setCell (by dsimp only;omega) _
 |true=>
 have E0:=hid (AE.made w1 w1 nr);have BE:=hid (Bd w1 (.cells #[] 2));go_wp2;clear x0 x1 s0 s1 s2 s3 s4 s5 s6 s7 s8 s9 r0 r1 rf y0 y1 y2 y3 y4 y5 y6;go_loopw [11,12] (fun v i wr=>∃(j:Nat) (la:Option Addr) (lc:Nat),j<=X.own.n/\i= .int .i64 j/\v= .slice la (CR X.own.h cat j).length lc/\AE wr w1 (.slice la (CR X.own.h cat j).length lc) (CR X.own.h cat j)/\Below w1 w1 wr) (fun _ i _=>X.own.n-(intOf i).toNat)
 case atStart=>exact⟨0,_,0,Nat.zero_le _,rfl,rfl,E0,BE⟩
 case round=>
  clear E0 BE;obtain⟨j,la,lc,hj,rfl,rfl,ow,be⟩:=hrel;have OW:=hid ow;have BB:=hid be;have ll:=KC X.own.h cat j;clear ow be;obtain⟨x0,x1⟩:=(BX _ BB).1.two;obtain⟨s0,s1,s2,s3,s4,s5,s6,s7,s8,s9⟩:=(BX _ BB).2.1.jE;obtain⟨r0,r1⟩:=(BX _ BB).2.2.1.two;have rf:=(BX _ BB).2.2.1.jC;obtain⟨y0,y1,y2,y3,y4,y5,y6⟩:=(BX _ BB).2.2.2.1.seven;by_cases hlt:j<X.own.n
  ·have i2:(j:Int)<(X.own.n:Int):=(by omega);have i3:(0:Int)<=(j:Int):=(by omega);obtain⟨b,off,ea,hbl,hc⟩:=OI.out _ (LW _ BB) (by omega);have c0:=hc j hlt;have EA:=hid ea;rw[ea]at y5;have HC:Hid (∀W,Below w1 w1 W->W.cell? ⟨b,off+j,none⟩=some (.int .i64 (X.own.h j))):=hid (fun W hW=>by
    obtain⟨b',off',ea',_,hc'⟩:=OI.out _ (LW _ hW) (by omega);rw[EA.out]at ea';cases ea';exact hc' j hlt)
   clear hc ea;have HLT:=hid hlt;by_cases he:X.own.h j=cat
   ·have EE:=hid he;have hd:(X.own.h j==cat)=true:=(by simpa using he);have hd':decide (X.own.h j=cat)=true:=decide_eq_true he;clear he;go_wp2_with fail
    go_quiet(fail)
    go_wp2;go_roundw;case rel=>exact⟨j+1,la,lc,by have:=HLT.out;omega,by go_num,by rw[Ni EE.out],by rw[Ni EE.out];exact OW.out.below' (below_drewN (Below.refl _ wr) _),BB.out.trans ((below_drewN (Below.refl _ wr) _).mono BB.out.size)⟩
    case measure=>have:=HLT.out;simp[intOf];omega
   ·have EE:=hid he;have hd:(X.own.h j==cat)=false:=(by simpa using he);have hd':decide (X.own.h j=cat)=false:=decide_eq_false he;clear he;go_wp2_with fail
    go_quiet(fail)
    have bn:Below wr wr (wr.drewN nq):=below_drewN (Below.refl _ wr) nq;have OWn:=hid (OW.out.below' bn);have BBn:=hid (BB.out.trans (bn.mono BB.out.size));clear x0 x1 s0 s1 s2 s3 s4 s5 s6 s7 s8 s9 r0 r1 rf y0 y1 y2 y3 y4 y5 y6;clear bn OW BB c0;generalize wr.drewN nq=W at *;obtain⟨x0,x1⟩:=(BX _ BBn).1.two;obtain⟨s0,s1,s2,s3,s4,s5,s6,s7,s8,s9⟩:=(BX _ BBn).2.1.jE;obtain⟨r0,r1⟩:=(BX _ BBn).2.2.1.two;have rf:=(BX _ BBn).2.2.1.jC;obtain⟨y0,y1,y2,y3,y4,y5,y6⟩:=(BX _ BBn).2.2.2.1.seven;rw[EA.out]at y5;have c0:=HC.out _ BBn.out;have n10:No (.cells #[.int .i64 (X.own.h j)] 2):=⟨⟩;have QO:=hid (OWn.out.alloc n10);have QL:=hid (Dv.one (w:=W) (X.own.h j));have sQ:w1.heap.size<=(W.alloc n10).heap.size:=(by have:=BBn.out.size;simp;omega);have bQ:=hid (BBn.out.alloc BBn.out.size n10);have ER:=hid (Uj EE);have lR:(CR X.own.h cat (j+1)).length<=4194304:=(by have:=KC X.own.h cat (j+1);omega);go_wp2_with(at_builtin;refine AZ _ rfl _ _ rfl w1 (.slice la (CR X.own.h cat j).length lc) (CR X.own.h cat j) rfl QO _ 1 1 [X.own.h j] rfl rfl QL (CR X.own.h cat (j+1)) ER lR sQ ?_;intro a7 c7 w7 o7 g7 h7;have O7:=hid o7;have B7:Hid (Below w1 w1 w7):=hid (bQ.out.trans (below_grown g7 sQ (fun j e=>(World.ownsRow.lt QO j e).1)));clear o7 g7 h7)
    go_roundw;case rel=>exact⟨j+1,a7,c7,by have:=HLT.out;omega,by go_num,rfl,O7,B7⟩
    case measure=>have:=HLT.out;simp[intOf];omega
  ·obtain rfl:j=X.own.n:=by omega
   have i2:¬(X.own.n:Int)<(X.own.n:Int):=(by omega);have ND:Hid (AH.new B wr ⟨la,(CR X.own.h cat X.own.n).length,lc,AV (CR X.own.h cat X.own.n)⟩):=hid (((OW.out.newL (by omega)).low (Nat.le_trans hB HB.out.size)));have CP:=hid (Dj OW);have KB:=hid (BX.out _ BB).2.2.2.2;have CC:=(KB.out.jJ ht).1;have c5:=CC.c5;have GF:=hid (KB.out.setOwn (d:=⟨la,(CR X.own.h cat X.own.n).length,lc,AV (CR X.own.h cat X.own.n)⟩) ht EX ND CP);have gf:=GF.out.2.1.choose_spec.jC;have ng1:¬g=w.heap.size:=(by omega);have ng2:¬g=w.heap.size+1+1:=(by omega);have ng3:¬w.heap.size=g:=(by omega);have ng4:¬w.heap.size+1+1=g:=(by omega);have n9:Nv (.slice la (CR X.own.h cat X.own.n).length lc):=⟨⟩;have A4:=hid ((BX _ BB).1.other (Q:=g) ng1 (i:=t*7+5) n9);have R4:=hid ((BX _ BB).2.2.1.other (Q:=g) ng2 (i:=t*7+5) n9);have L4:Hid (Below B w (wr.setCell ⟨g,t*7+5,none⟩ n9)):=hid ((LB _ BB).setCell (by dsimp only;exact GF.out.2.2) _);clear CC;go_wp2;refine bodyPost_ret (Ak _ _ (w.heap.size+1+1) 6 _ _ _ _ Tryz.results78 ((R4.out.jB (i:=0) _).jB (i:=1) _) rfl rfl rfl) rfl ⟨_,0,rfl,(GF.out.1.set R4 (.inl rfl) _).set (R4.out.jB (i:=0) _) (.inl rfl) _,(L4.out.setCell (by dsimp only;omega) _).setCell (by dsimp only;omega) _,.inr ⟨rfl,EH.out.symm,la,lc,rfl⟩⟩
def putAt(L:List Int)(x:Int):Nat:=L.findIdx (fun y=> !decide (y<x))
def DD(L:List Int)(x:Int):List Int:=if L[putAt L x]? =some x then L else L.take (putAt L x)++[x]++L.drop (putAt L x)
theorem RH{L:List Int}{x:Int}{k:Nat}(hk:k<=L.length)(h1:∀j,j<k->AV L j<x)(h2:k=L.length∨¬AV L k<x):putAt L x=k:=by
 unfold putAt;by_cases e:k<L.length
 ·rw[List.findIdx_eq e];have h3:¬AV L k<x:=by
   rcases h2 with h2|h2
   ·omega
   ·exact h2
  refine⟨?_,fun j hj=>?_⟩
  ·simp[AV,e]at h3;simpa using h3
  ·have:=h1 j hj;have hj':j<L.length:=(by omega);simp[AV,hj']at this;simpa using this
 ·have ek:k=L.length:=by omega
  subst ek;rw[List.findIdx_eq_length];intro y hy;obtain⟨j,hj,rfl⟩:=List.getElem_of_mem hy;have:=h1 j hj;simp[AV,hj]at this;simpa using this
theorem PY(A:Addr)(cap:Nat)(L:List Int)(x:Int)(w:World)(hn:L.length<=1048576)(hcap:L.length<=cap)(hcm:cap<=maxLen)(hc:Dv w (some A) L):
 Calls prog 112 #[.slice (some A) L.length cap,.int .i64 x] w fun e w'=>∃va vc,e= .returned (.slice va (DD L x).length vc)/\AE w' w (.slice va (DD L x).length vc) (DD L x)/\Below w w w':=by
 have hi:=hc.ints;unfold maxLen at hcm;go_enter func112,ntmps112
 go_wp2;go_loop [5] (fun i=>∃k:Nat,k<=L.length/\i= .int .i64 k/\(∀j,j<k->AV L j<x)) (fun i=>L.length-(intOf i).toNat)
 case atStart=>exact⟨0,Nat.zero_le _,rfl,fun j hj=>by omega⟩
 case round=>
  obtain⟨k,hk,rfl,hall⟩:=hrel;have HA:Hid (∀j,j<k->AV L j<x):=hall;clear hall;have HC:Hid (Dv w (some A) L):=hc;by_cases hlt':k<L.length
  ·obtain⟨b,off,eA,hlt,hcc⟩:=hi (by omega);obtain rfl:A=⟨b,off,none⟩:=by simpa using eA
   have g1:=hcc k hlt';have hki:(k:Int)<(L.length:Int):=(by omega);clear hcc hc hi;by_cases t:AV L k<x
   ·go_wp2;go_round;case rel=>
     refine⟨k+1,by omega,by go_num,fun j hj=>?_⟩;by_cases e:j=k
     ·subst e;exact t
     ·exact HA.out j (by omega)
    case measure=>simp[intOf];omega
   ·have ek:putAt L x=k:=RH (by omega) HA (.inr t);obtain⟨T,hT⟩:∃T,T=L.take k:=⟨_,rfl⟩;obtain⟨D,hD⟩:∃D,D=L.drop k:=⟨_,rfl⟩;have lT:Hid (T.length=k):=(by show _=_;rw[hT,List.length_take];omega);have lD:Hid (D.length=L.length-k):=(by show _=_;rw[hD,List.length_drop]);obtain⟨R2,hR2⟩:∃R2,R2=T++[x]:=⟨_,rfl⟩;obtain⟨R3,hR3⟩:∃R3,R3=R2++D:=⟨_,rfl⟩;have lR3:Hid (R3.length=L.length+1):=(by show _=_;rw[hR3,hR2];simp[lT.out,lD.out];omega);have lR2:Hid (R2.length=k+1):=(by show _=_;rw[hR2];simp[lT.out]);have HT:Hid (T=L.take k):=hT;have HD:Hid (D=L.drop k):=hD;have HR2:Hid (R2=T++[x]):=hR2;have HR3:Hid (R3=R2++D):=hR3;have HK:Hid (putAt L x=k):=ek;have ID:Dv w (some ⟨b,off+k,none⟩) D:=(by rw[hD];exact HC.out.drop k);clear hT hD hR2 hR3 ek;have E0:Below w w (w.alloc (.cells #[] 2)):=Bd w _;have O0:=AE.made w w nr;have s0:(w.alloc (.cells #[] 2)).heap.size=w.heap.size+1:=(by simp);have ki:(k:Int)<=(L.length:Int):=(by omega);have kc:(k:Int)<=(cap:Int):=(by omega);cases t2:(AV L k==x)with
    |true=>
     have HX:Hid (L[k]? =some x):=(by show _=_;have:=beq_iff_eq.1 t2;simp[AV,hlt']at this;simp[hlt',this]);go_wp2_with(at_builtin;refine AZ _ rfl _ _ rfl w _ [] rfl O0 _ _ _ L rfl rfl (HC.out.below E0) L (by simp) (by omega) (by simp) ?_;intro a' c' w' hown' hgrow' hat')
     go_ret;have e:DD L x=L:=(by unfold DD;rw[HK.out,HX.out];simp);rw[e];exact⟨_,_,rfl,hown',E0.grown hgrow' (by simp) (fun j e=>by cases e;exact Nat.le_refl _)⟩
    |false=>
     have HX:Hid (¬L[k]? =some x):=(by show ¬_;have:=beq_eq_false_iff_ne.1 t2;simp[AV,hlt']at this;simp[hlt',this]);go_wp2_with(first
      |(at_builtin;have hq:=hown2;clear hq;refine AZ _ rfl _ _ rfl w (.slice a2 R2.length c2) R2 rfl hown2 _ _ _ D rfl lD (ID.below E2) R3 HR3 (by rw[lR3.out];omega) E2.size ?_;intro a3 c3 w3 hown3 hgrow3 hat3)
      |(at_builtin;have hq:=hown1;clear hq;refine AZ _ rfl _ _ rfl w (.slice a1 T.length c1) T rfl (hown1.alloc _) _ _ _ [x] rfl rfl (Dv.one x) R2 HR2 (by rw[lR2.out];omega) (Nat.le_trans E1.size (by simp)) ?_;intro a2 c2 w2 hown2 hgrow2 hat2;have E2:Below w w w2:=(E1.alloc E1.size _).grown hgrow2 (Nat.le_trans E1.size (by simp)) (fun j e=>(World.ownsRow.lt hown1 j e).1))
      |(at_builtin;refine AZ _ rfl _ _ rfl w (.slice (some ⟨w,0,none⟩) 0 0) [] rfl O0 _ _ _ T rfl lT ((HT.out▸HC.out.take k).below E0) T (by simp) (by rw[lT.out];omega) (by simp) ?_;intro a1 c1 w1 hown1 hgrow1 hat1;have E1:Below w w w1:=E0.grown hgrow1 (by simp) (fun j e=>by cases e;exact Nat.le_refl _)))
     go_ret;have e:DD L x=R3:=by
      unfold DD;rw[HK.out,if_neg HX.out,HR3.out,HR2.out,HT.out,HD.out]
     rw[e];exact⟨_,_,rfl,hown3,E2.grown hgrow3 E2.size (fun j e=>(World.ownsRow.lt hown2 j e).1)⟩
  ·have hkL:k=L.length:=(by omega);have ek:putAt L x=k:=RH (by omega) HA (.inl hkL);have HK:Hid (putAt L x=k):=ek;have HKL:Hid (k=L.length):=hkL;obtain⟨R2,hR2⟩:∃R2,R2=L++[x]:=⟨_,rfl⟩;have HR2:Hid (R2=L++[x]):=hR2;have lR2:Hid (R2.length=L.length+1):=(by show _=_;rw[hR2];simp);have nk:¬(k:Int)<(L.length:Int):=(by omega);clear hR2 ek hkL hc hi;have E0:Below w w (w.alloc (.cells #[] 2)):=Bd w _;have O0:=AE.made w w nr;have kc:(k:Int)<=(cap:Int):=(by omega);have an:Hid (DD L x=R2):=by
    show _=_;unfold DD;rw[HK.out,if_neg (by rw[List.getElem?_eq_none (by have:=HKL.out;omega)];simp),HR2.out,HKL.out];simp
   go_wp2_with(first
    |(at_builtin;have hq:=hown2;clear hq;refine AZ _ rfl _ _ rfl w (.slice a2 R2.length c2) R2 rfl hown2 _ _ _ [] rfl (by have:=HKL.out;simp;omega) (Dv.none _ _) R2 (by simp) (by rw[lR2.out];omega) E2.size ?_;intro a3 c3 w3 hown3 hgrow3 hat3)
    |(at_builtin;have hq:=hown1;clear hq;refine AZ _ rfl _ _ rfl w (.slice a1 L.length c1) L rfl (hown1.alloc _) _ _ _ [x] rfl rfl (Dv.one x) R2 HR2 (by rw[lR2.out];omega) (Nat.le_trans E1.size (by simp)) ?_;intro a2 c2 w2 hown2 hgrow2 hat2;have E2:Below w w w2:=(E1.alloc E1.size _).grown hgrow2 (Nat.le_trans E1.size (by simp)) (fun j e=>(World.ownsRow.lt hown1 j e).1))
    |(at_builtin;refine AZ _ rfl _ _ rfl w (.slice (some ⟨w,0,none⟩) 0 0) [] rfl O0 _ _ _ L rfl HKL.out.symm (HC.out.below E0) L (by simp) (by omega) (by simp) ?_;intro a1 c1 w1 hown1 hgrow1 hat1;have E1:Below w w w1:=E0.grown hgrow1 (by simp) (fun j e=>by cases e;exact Nat.le_refl _)))
   all_goals
    go_ret;rw[an.out];exact⟨_,_,rfl,hown3,E2.grown hgrow3 E2.size (fun j e=>(World.ownsRow.lt hown2 j e).1)⟩
theorem Uo(cap:Nat)(x:Int)(w:World):
 Calls prog 112 #[.slice none 0 cap,.int .i64 x] w fun e w'=>∃va vc,e= .returned (.slice va 1 vc)/\AE w' w (.slice va 1 vc) [x]/\Below w w w':=by
 have E0:Below w w (w.alloc (.cells #[] 2)):=Bd w _;have O0:=AE.made w w nr;go_enter func112,ntmps112
 go_wp2;go_loopw [5] (fun i wr=>i= .int .i64 0/\wr=w) (fun i _=>(intOf i).toNat)
 case atStart=>exact⟨rfl,rfl⟩
 case round=>
  obtain⟨rfl,rfl⟩:=hrel;go_wp2_with(first
   |(at_builtin;have hq:=hown2;clear hq;refine AZ _ rfl _ _ rfl wr (.slice a2 1 c2) [x] rfl hown2 _ _ _ [] rfl rfl (Dv.none _ _) [x] rfl (by simp) E2.size ?_;intro a3 c3 w3 hown3 hgrow3 hat3)
   |(at_builtin;have hq:=hown1;clear hq;refine AZ _ rfl _ _ rfl wr (.slice a1 0 c1) [] rfl (hown1.alloc _) _ _ _ [x] rfl rfl (Dv.one x) [x] rfl (by simp) (Nat.le_trans E1.size (by simp)) ?_;intro a2 c2 w2 hown2 hgrow2 hat2;have E2:Below wr wr w2:=(E1.alloc E1.size _).grown hgrow2 (Nat.le_trans E1.size (by simp)) (fun j e=>(World.ownsRow.lt hown1 j e).1))
   |(at_builtin;refine AZ _ rfl _ _ rfl wr (.slice (some ⟨wr,0,none⟩) 0 0) [] rfl O0 _ _ _ [] rfl rfl (Dv.none _ _) [] rfl (by simp) (by simp) ?_;intro a1 c1 w1 hown1 hgrow1 hat1;have E1:Below wr wr w1:=E0.grown hgrow1 (by simp) (fun j e=>by cases e;exact Nat.le_refl _)))
  go_ret;exact⟨_,_,rfl,hown3,E2.grown hgrow3 E2.size (fun j e=>(World.ownsRow.lt hown2 j e).1)⟩
theorem Pj(c:AH)(x:Int)(w:World)(hc:c.at w)(hn:c.n<=1048576)(hcap:c.n<=c.k/\c.k<=maxLen):
 Calls prog 112 #[c,.int .i64 x] w fun e w'=>∃va vc,e= .returned (.slice va (DD ((List.range c.n).map c.h) x).length vc)/\AE w' w (.slice va (DD ((List.range c.n).map c.h) x).length vc) (DD ((List.range c.n).map c.h) x)/\Below w w w':=by
 have el:((List.range c.n).map c.h).length=c.n:=by simp
 cases ha:c.a with
 |some A=>
  have hi:=hc.2.intL;rw[ha]at hi;have h:=PY A c.k ((List.range c.n).map c.h) x w (by rw[el];exact hn) (by rw[el];exact hcap.1) hcap.2 hi;rw[el]at h;exact h
 |none=>
  have h0:c.n=0:=by
   by_cases e:0<c.n
   ·obtain⟨b,off,e',_⟩:=hc.2 e;rw[ha]at e';cases e'
   ·omega
  rw[h0];exact Uo c.k x w
def Dl(n:Nat):List UInt8:=if h:n<10 then[UInt8.ofNat (48+n)]else Dl (n/10)++[UInt8.ofNat (48+n%10)]
termination_by n
decreasing_by omega
theorem JE{n:Nat}(h:n<10):Dl n=[UInt8.ofNat (48+n)]:=by rw[Dl,dif_pos h]
theorem NU{n:Nat}(h:¬n<10):Dl n=Dl (n/10)++[UInt8.ofNat (48+n%10)]:=by rw[Dl,dif_neg h]
def Za(c:Int×Int):List UInt8:=44::(Dl c.1.toNat++58::Dl c.2.toNat)
def cv(base:Int)(cats:List (Int×Int)):List UInt8:=Dl base.toNat++(cats.map Za).flatten

theorem Kr(n:Nat):(Dl n).length<=n+1:=by
 induction n using Nat.strongRecOn with
 |_ n ih=>
  by_cases h:n<10
  ·rw[JE h];simp
  ·rw[NU h,List.length_append];have:=ih (n/10) (by omega);simp;omega
theorem Lk(n:Nat)(w:World)(hn:n<=10000000000):
 Calls prog 33 #[.int .i64 n] w fun e w'=>e= .returned (.string ⟨(Dl n).toArray⟩)/\Below w w w':=by
 have hlen:=Kr n;go_enter func33,ntmps33
 go_wp2;go_loopw [0,3] (fun x s wr=>∃(k:Nat) (l:List UInt8),k<=n/\x= .int .i64 k/\s= .string ⟨l.toArray⟩/\Dl n=Dl k++l/\Below w w wr) (fun x _ _=>(intOf x).toNat)
 case atStart=>exact⟨n,[],Nat.le_refl _,rfl,rfl,by simp,Below.refl _ _⟩
 case round=>
  obtain⟨k,l,hk,rfl,rfl,hd,hB⟩:=hrel;have hl:l.length<=10000000001:=by
   have:=congrArg List.length hd;rw[List.length_append]at this;omega
  have HD:Hid (Dl n=Dl k++l):=hd;clear hd;by_cases h10:k<10
  ·have h10':¬(10:Int)<=(k:Int):=(by omega);obtain⟨b,hb⟩:∃b,b=UInt8.ofNat (48+(k:Int)).toNat:=⟨_,rfl⟩;have ob:=fun(w:World)=>one_byte w (48+(k:Int)) (by omega) (by omega);rw[<-hb]at ob;have HB:Hid (b=UInt8.ofNat (48+k)):=hb;clear hb;go_wp2;go_ret;refine⟨?_,hB.alloc hB.size _⟩;rw[JP,HD.out,JE h10,<-HB.out];rfl
  ·have h10':(10:Int)<=(k:Int):=(by omega);obtain⟨b,hb⟩:∃b,b=UInt8.ofNat (48+(k:Int)%10).toNat:=⟨_,rfl⟩;have ob:=fun(w:World)=>one_byte w (48+(k:Int)%10) (by omega) (by omega);rw[<-hb]at ob;have HB:Hid (b=UInt8.ofNat (48+k%10)):=hb;clear hb;go_wp2;go_roundw;case rel=>
    refine⟨k/10,b::l,by omega,by go_num,by rw[JP],?_,hB.alloc hB.size _⟩;rw[HD.out,NU h10,<-HB.out,List.append_assoc];rfl
   case measure=>simp[intOf];omega
theorem Rz(b:Int)(c:Aq)(w:World)(hc:c.at w):
 Calls prog 106 #[.agg #[.int .i64 b,c.val]] w fun e w'=>e= .returned (.bool (Ba b c.n c.f c.g))/\Below w w w':=GK b c.a c.n c.k c.f c.g w hc.1 hc.2
theorem ax(c:AH)(w:World)(hc:c.at w):
 Calls prog 107 #[c.val] w fun e w'=>e= .returned (.bool (Cg c.n c.h))/\Below w w w':=Nl c.a c.n c.k c.h w hc.1 hc.2
theorem Qf(t:Ab)(w:World)(ht:t.at w):
 Calls prog 73 #[t.val] w fun e w'=>e= .returned (.bool (Cz t))/\Below w w w':=by
 have n1:No (.cells #[t.id,t.kind,t.up,t.b1,t.c1.val,.string t.data,t.jA.val,t.own.val,t.b2,t.c2.val] 47):=⟨⟩;have hb0:=(Below.refl _ w).alloc nr n1;have A0:=Ag.new w n1;have T0:=hid (ht.below hb0);unfold Ab.val;obtain⟨x0,x1,x2,x3,x4,x5,x6,x7,x8,x9⟩:=A0.jE;clear ht;go_enter func73,ntmps73
 go_wp2_with fail
 refine(Rz _ t.c1 _ T0.out.1).mono ?_;rintro e w1 ⟨rfl,hb1⟩;have A1:=A0.below hb1;have T1:=hid (T0.out.below hb1);have B1:=Af hb0 hb1;clear x0 x1 x2 x3 x4 x5 x6 x7 x8 x9 A0 T0 hb0 hb1;obtain⟨x0,x1,x2,x3,x4,x5,x6,x7,x8,x9⟩:=A1.jE;cases t1:Ba t.b1 t.c1.n t.c1.f t.c1.g with
 |false=>
  go_wp2;go_ret;exact⟨Ah (by simp[Cz,t1]),B1⟩
 |true=>
 go_wp2_with fail
 refine(Rz _ t.c2 _ T1.out.2.2.2.1).mono ?_;rintro e w2 ⟨rfl,hb2⟩;have A2:=A1.below hb2;have T2:=hid (T1.out.below hb2);have B2:=Af B1 hb2;clear x0 x1 x2 x3 x4 x5 x6 x7 x8 x9 A1 T1 B1 hb2;obtain⟨x0,x1,x2,x3,x4,x5,x6,x7,x8,x9⟩:=A2.jE;cases t2:Ba t.b2 t.c2.n t.c2.f t.c2.g with
 |false=>
  go_wp2;go_ret;exact⟨Ah (by simp[Cz,t2]),B2⟩
 |true=>
 go_wp2_with fail
 refine(ax t.own _ T2.out.2.2.1).mono ?_;rintro e w3 ⟨rfl,hb3⟩;have A3:=A2.below hb3;have T3:=hid (T2.out.below hb3);have B3:=Af B2 hb3;clear x0 x1 x2 x3 x4 x5 x6 x7 x8 x9 A2 T2 B2 hb3;obtain⟨x0,x1,x2,x3,x4,x5,x6,x7,x8,x9⟩:=A3.jE;cases t3:Cg t.own.n t.own.h with
 |false=>
  go_wp2;go_ret;exact⟨Ah (by simp[Cz,t3]),B3⟩
 |true=>
 unfold Aw.val at x6;have hn5:=T3.out.2.1.1;unfold maxLen at hn5;by_cases h8:8<t.jA.n
 ·have h8':(8:Int)<(t.jA.n:Int):=by omega
  go_wp2;go_ret;exact⟨Ah (by simp[Cz,MC h8]),B3⟩
 have h8':¬(8:Int)<(t.jA.n:Int):=by omega
 go_wp2_with fail
 refine(IF t.data _ _ T3.out.2.2.2.2).mono ?_;rintro e w4 ⟨rfl,rfl⟩;cases t4:By t.data 40 with
 |false=>
  go_wp2;go_ret;exact⟨Ah (by simp[Cz,t4]),B3⟩
 |true=>
 have OK:Hid (Eu t.jA.n t.jA.f=true->Cz t=G8 t):=hid (fun t5=>by simp[Cz,t1,t2,t3,t4,t5]);clear t1 t2 t3 t4;go_wp2;go_loop [3] (fun i=>∃k:Nat,k<=t.jA.n/\i= .int .i64 k/\Hid (∀j,j<k->By (t.jA.f j) 40=true)) (fun i=>t.jA.n-(intOf i).toNat)
 case atStart=>exact⟨0,Nat.zero_le _,rfl,hid (fun j hj=>by omega)⟩
 case round=>
  obtain⟨k,hk,rfl,HA⟩:=hrel;by_cases hlt:k<t.jA.n
  ·obtain⟨b,off,ea,hlt0,hcc⟩:=T3.out.2.1.2.1 (by omega);rw[ea]at x6;have g1:=hcc k hlt;have z:=T3.out.2.1.2.2 k hlt;have i1:(k:Int)<(t.jA.n:Int):=(by omega);clear hcc ea;go_wp2_with fail
   refine(IF _ _ _ z).mono ?_;rintro e w5 ⟨rfl,rfl⟩;clear g1;by_cases t5:By (t.jA.f k) 40=true
   ·have HA2:Hid (∀j,j<k+1->By (t.jA.f j) 40=true):=hid (fun j hj=>by
     by_cases e:j=k
     ·subst e;exact t5
     ·exact HA.out j (by omega))
    go_wp2;exact⟨⟨k+1,by omega,by go_num,HA2⟩,by simp[intOf];omega⟩
   ·have t':By (t.jA.f k) 40=false:=(by simpa using t5);clear t5;go_wp2;go_ret;exact⟨Ah (by simp[Cz,Pz hlt t']),B3⟩
  ·have e:k=t.jA.n:=(by omega);have OK2:=hid (OK.out (by rw[Nk (by rw[<-e];exact HA.out)];simp;omega));clear e OK HA;unfold AH.val at x7;unfold Aq.val at x9;have hn6:=T3.out.2.2.1.1;have hn7:=T3.out.2.2.2.1.1;unfold maxLen at hn6 hn7;go_wp2;all_goals
    go_ret;refine⟨Ah ?_,by assumption⟩;rw[OK2.out];clear OK2 h8' x0 x1 x2 x3 x4 x5 x6 x7 x8 x9;first
    |(simp_all[G8,Dt,au];done)
    |(simp_all[G8,Dt];exact au _)
end Go.Proofs.YtbdagpckhfcneaaGreatDoor
