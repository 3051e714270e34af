import Derived.Test.YtmikapeeflcbfaaGreatDoorZ3
import Derived.Deep.RegionHeld3
import Derived.Deep.QuietTactic
import Derived.BigQuiet
import Derived.Test.YtmikapeeflcbfaaGreatDoorZ1
import Derived.Laws.IdiomStrings
set_option maxRecDepth 100000
set_option maxHeartbeats 4000000
namespace Go.Proofs.YtmikapeeflcbfaaGreatDoor
open Go.RowKit Go.Deep Go.Proofs.Tryz
def Ao.same(c d:Ao):Prop:=d.n=c.n/\d.f=c.f
def Ab.same(t u:Ab):Prop:=u.id=t.id/\u.kind=t.kind/\u.up=t.up/\u.b1=t.b1/\t.c1.same u.c1/\u.data=t.data/\t.jA.same u.jA/\t.own.same u.own/\u.b2=t.b2/\t.c2.same u.c2
def Ab.row(w:World)(t:Ab):Prop:=t.c1.row w/\t.jA.row w/\t.own.row w/\t.c2.row w
theorem Ao.row.below{w w':World}{c:Ao}(h:c.row w)(hb:Below w w w'):c.row w':=by
 obtain⟨b,e,hr⟩:=h;exact⟨b,e,Dw hr hb⟩
theorem Ab.row.below{w w':World}{t:Ab}(h:t.row w)(hb:Below w w w'):t.row w':=⟨Al.row.below h.1 hb,Ao.row.below h.2.1 hb,Av.row.below h.2.2.1 hb,Al.row.below h.2.2.2 hb⟩
theorem Ab.row.put{w:World}{t:Ab}{P ty N:Nat}{G:Nat->Value}(h:t.row w)(hP:w.rowIs P ty N G)(h1:ty≠145)(h2:ty≠2)(h3:ty≠9)(i:Nat)(v:Value):t.row (w.setCell ⟨P,i,none⟩ v):=by
 obtain⟨⟨b1,e1,r1⟩,⟨b2,e2,r2⟩,⟨b3,e3,r3⟩,⟨b4,e4,r4⟩⟩:=h;exact⟨⟨b1,e1,r1.setOther (Du r1 hP h1.symm) v⟩,⟨b2,e2,r2.setOther (Du r2 hP h3.symm) v⟩,⟨b3,e3,r3.setOther (Du r3 hP h2.symm) v⟩,⟨b4,e4,r4.setOther (Du r4 hP h1.symm) v⟩⟩
def Ab.since(B:Nat)(t:Ab):Prop:=(∀p,t.c1.a=some p->B<=p.block)/\(∀p,t.jA.a=some p->B<=p.block)/\(∀p,t.own.a=some p->B<=p.block)/\(∀p,t.c2.a=some p->B<=p.block)
theorem Ab.since.low{B B':Nat}{t:Ab}(h:t.since B)(hB:B'<=B):t.since B':=⟨fun p e=>Nat.le_trans hB (h.1 p e),fun p e=>Nat.le_trans hB (h.2.1 p e),fun p e=>Nat.le_trans hB (h.2.2.1 p e),fun p e=>Nat.le_trans hB (h.2.2.2 p e)⟩
theorem S9(t:Ab)(w:World)(ht:t.at w)(hs:t.small):
 Calls prog 50 #[t.val] w fun e w'=>∃u:Ab,e= .returned u.val/\t.same u/\(u.row w'/\u.since w)/\Below w w w':=by
 refine(Qx t w ht hs).mono ?_;rintro e w' ⟨d1,d2,d3,d4,rfl,r1,r2,r3,r4,hb,l1,l2,l3,l4⟩;exact⟨⟨t.id,t.kind,t.up,t.b1,⟨some ⟨d1,0,none⟩,t.c1.n,t.c1.n,t.c1.f,t.c1.g⟩,t.data,⟨some ⟨d2,0,none⟩,t.jA.n,t.jA.n,t.jA.f⟩,⟨some ⟨d3,0,none⟩,t.own.n,t.own.n,t.own.h⟩,t.b2,⟨some ⟨d4,0,none⟩,t.c2.n,t.c2.n,t.c2.f,t.c2.g⟩⟩,rfl,⟨rfl,rfl,rfl,rfl,⟨rfl,rfl,rfl⟩,rfl,⟨rfl,rfl⟩,⟨rfl,rfl⟩,rfl,⟨rfl,rfl,rfl⟩⟩,⟨⟨⟨d1,rfl,r1⟩,⟨d2,rfl,r2⟩,⟨d3,rfl,r3⟩,⟨d4,rfl,r4⟩⟩,⟨fun p e=>by cases e;exact l1,fun p e=>by cases e;exact l2,fun p e=>by cases e;exact l3,fun p e=>by cases e;exact l4⟩⟩,hb⟩
structure aC(G:Nat->Value)(o:Nat)(u:Ab):Prop where
 g0:G (o)= .int .i64 u.id
 g1:G (o+1)= .int .i64 u.kind
 g2:G (o+2)= .int .i64 u.up
 g3:G (o+3)= .int .i64 u.b1
 g4:G (o+4)=u.c1.val
 g5:G (o+5)= .string u.data
 g6:G (o+6)=u.jA.val
 g7:G (o+7)=u.own.val
 g8:G (o+8)= .int .i64 u.b2
 g9:G (o+9)=u.c2.val
theorem XJ{w:World}{b ty N:Nat}{G:Nat->Value}(hr:w.rowIs b ty N G)(o:Nat)(x0 x1 x2 x3 x4 x5 x6 x7 x8 x9:Value):
 ∃G':Nat->Value,((((((((((w.setCell ⟨b,o,none⟩ x0).setCell ⟨b,o+1,none⟩ x1).setCell ⟨b,o+2,none⟩ x2).setCell ⟨b,o+3,none⟩ x3).setCell ⟨b,o+4,none⟩ x4).setCell ⟨b,o+5,none⟩ x5).setCell ⟨b,o+6,none⟩ x6).setCell ⟨b,o+7,none⟩ x7).setCell ⟨b,o+8,none⟩ x8).setCell ⟨b,o+9,none⟩ x9).rowIs b ty N G'/\(G' (o)=x0/\G' (o+1)=x1/\G' (o+2)=x2/\G' (o+3)=x3/\G' (o+4)=x4/\G' (o+5)=x5/\G' (o+6)=x6/\G' (o+7)=x7/\G' (o+8)=x8/\G' (o+9)=x9)/\∀i,i<o->G' i=G i:=by
 refine⟨_,((((((((((hr.set (o) x0).set (o+1) x1).set (o+2) x2).set (o+3) x3).set (o+4) x4).set (o+5) x5).set (o+6) x6).set (o+7) x7).set (o+8) x8).set (o+9) x9),⟨?_,?_,?_,?_,?_,?_,?_,?_,?_,?_⟩,fun i hi=>?_⟩
 ·simp
 ·simp
 ·simp
 ·simp
 ·simp
 ·simp
 ·simp
 ·simp
 ·simp
 ·simp
 ·rw[if_neg (by omega),if_neg (by omega),if_neg (by omega),if_neg (by omega),if_neg (by omega),if_neg (by omega),if_neg (by omega),if_neg (by omega),if_neg (by omega),if_neg (by omega)]
theorem Ab.row.put10{w:World}{t:Ab}{P ty N:Nat}{G:Nat->Value}(h:t.row w)(hP:w.rowIs P ty N G)(h1:ty≠145)(h2:ty≠2)(h3:ty≠9)(o:Nat)(x0 x1 x2 x3 x4 x5 x6 x7 x8 x9:Value):
 t.row ((((((((((w.setCell ⟨P,o,none⟩ x0).setCell ⟨P,o+1,none⟩ x1).setCell ⟨P,o+2,none⟩ x2).setCell ⟨P,o+3,none⟩ x3).setCell ⟨P,o+4,none⟩ x4).setCell ⟨P,o+5,none⟩ x5).setCell ⟨P,o+6,none⟩ x6).setCell ⟨P,o+7,none⟩ x7).setCell ⟨P,o+8,none⟩ x8).setCell ⟨P,o+9,none⟩ x9):=by
 have r0:=hP.set (o) x0;have r1:=r0.set (o+1) x1;have r2:=r1.set (o+2) x2;have r3:=r2.set (o+3) x3;have r4:=r3.set (o+4) x4;have r5:=r4.set (o+5) x5;have r6:=r5.set (o+6) x6;have r7:=r6.set (o+7) x7;have r8:=r7.set (o+8) x8;exact(Ab.row.put (Ab.row.put (Ab.row.put (Ab.row.put (Ab.row.put (Ab.row.put (Ab.row.put (Ab.row.put (Ab.row.put (Ab.row.put h hP h1 h2 h3 (o) x0) r0 h1 h2 h3 (o+1) x1) r1 h1 h2 h3 (o+2) x2) r2 h1 h2 h3 (o+3) x3) r3 h1 h2 h3 (o+4) x4) r4 h1 h2 h3 (o+5) x5) r5 h1 h2 h3 (o+6) x6) r6 h1 h2 h3 (o+7) x7) r7 h1 h2 h3 (o+8) x8) r8 h1 h2 h3 (o+9) x9)
theorem Qa(n:Nat)(hn:n<=1048576)(w:World):
 ∃c:Array Value,c.size=n*10/\(Instr.makeSlice 34 (.int .i64 (n:Int)) (.int .i64 (n:Int))).run prog w= .ok (.slice (some ⟨w,0,none⟩) n n) (w.alloc (.cells c 88)):=by
 obtain⟨i,hi,hzz⟩:=Option.map_eq_some_iff.1 Tryz.info88;simp only[Prod.mk.injEq]at hzz;obtain⟨hz,hs,hb⟩:=hzz;have hr:=run_make (P:=prog) w 34 88 i _ underlying34 hi hz .i64 .i64 n n (by omega) (Int.le_refl _) (by rw[hb];omega) (by omega);simp only[Int.toNat_natCast,hs]at hr;exact⟨_,size_madeCells _ _,hr⟩
def Uy(w:World)(N k:Nat)(T U:Nat->Ab)(wr:World):Prop:=
 ∃G:Nat->Value,wr.rowIs w 88 N G/\∀j,j<k->aC G (j*10) (U j)/\(T j).same (U j)/\(U j).row wr/\(U j).since w.heap.size
theorem Nx(a:Option Addr)(n cap:Nat)(T:Nat->Ab)(w:World)(hn:n<=1048576)(hT:Et w a n T)(hs:∀i,i<n->(T i).small):
 Calls prog 21 #[.slice a n cap] w fun e w'=>e= .returned (.slice (some ⟨w,0,none⟩) n n)/\(∃U,Uy w (n*10) n T U w')/\Below w w w':=by
 obtain⟨c,hc7,hmk⟩:=Qa n hn w;have HT:=hid hT;have HS:=hid hs;have R0:Hid ((w.alloc (.cells c 88)).rowIs w 88 (n*10) (fun i=>c[i]?.getD undef)):=hid (by
  rw[<-hc7];exact World.rowIs_alloc w c 88 _ (fun i hi=>by simp[hi]))
 clear hT hs;go_enter func21,ntmps21
 go_wp2;go_loopw [4] (fun i wr=>∃k:Nat,k<=n/\i= .int .i64 k/\(∃U,Uy w (n*10) k T U wr)/\Below w w wr) (fun i _=>n-(intOf i).toNat)
 case atStart=>exact⟨0,Nat.zero_le _,rfl,⟨T,_,R0,fun j hj=>by omega⟩,(Below.refl _ _).alloc (Nat.le_refl _) _⟩
 case round=>
  obtain⟨k,hk,rfl,⟨U,G,hG,hU⟩,hB⟩:=hrel;have UU:=hid hU;have GG:=hid hG;clear hmk R0 hU hG;by_cases hlt:k<n
  ·obtain⟨b,off,rfl,hlt0,hc⟩:=HT.out.below hB (by omega);obtain⟨q,ht⟩:=hc k hlt;obtain⟨q0,q1,q2,q3,q4,q5,q6,q7,q8,q9⟩:=q;have i1:(k:Int)<(n:Int):=(by omega);have SZ:=hid (S9 (T k) wr ht (HS k hlt));unfold Ab.val at SZ;clear hc ht hlt0;go_wp2_with fail
   refine SZ.out.mono ?_;rintro e w2 ⟨u,rfl,us,⟨ua,un⟩,hb2⟩;have UL:=hid (un.low hB.size);clear un;have B2:=Ae hB hb2;have G2:=hid (Dw GG hb2);have U2:=hid (fun j (hj:j<k)=>(⟨(UU j hj).1,(UU j hj).2.1,Ab.row.below (UU j hj).2.2.1 hb2,(UU j hj).2.2.2⟩:aC G (j*10) (U j)/\(T j).same (U j)/\(U j).row w2/\(U j).since w));have UA:=hid ua;clear q0 q1 q2 q3 q4 q5 q6 q7 q8 q9 SZ UU GG hb2 ua;have z0:=G2.out.cell (i:=k*10) (by omega);have z1:=G2.out.cell (i:=k*10+1) (by omega);have z2:=G2.out.cell (i:=k*10+2) (by omega);have z3:=G2.out.cell (i:=k*10+3) (by omega);have z4:=G2.out.cell (i:=k*10+4) (by omega);have z5:=G2.out.cell (i:=k*10+5) (by omega);have z6:=G2.out.cell (i:=k*10+6) (by omega);have z7:=G2.out.cell (i:=k*10+7) (by omega);have z8:=G2.out.cell (i:=k*10+8) (by omega);have z9:=G2.out.cell (i:=k*10+9) (by omega);have zf:=G2.out.frozen;obtain⟨G',hG',⟨e0,e1,e2,e3,e4,e5,e6,e7,e8,e9⟩,hold⟩:=XJ G2 (k*10) (.int .i64 u.id) (.int .i64 u.kind) (.int .i64 u.up) (.int .i64 u.b1) (u.c1.val) (.string u.data) (u.jA.val) (u.own.val) (.int .i64 u.b2) (u.c2.val);have GN:=hid hG';have RU:Hid (∀t:Ab,t.row w2->t.row _):=hid (fun t h=>Ab.row.put10 h G2 (by decide) (by decide) (by decide) (k*10) (.int .i64 u.id) (.int .i64 u.kind) (.int .i64 u.up) (.int .i64 u.b1) (u.c1.val) (.string u.data) (u.jA.val) (u.own.val) (.int .i64 u.b2) (u.c2.val));have UN:Hid (∀j,j<k+1->aC G' (j*10) (if j=k then u else U j)/\(T j).same (if j=k then u else U j)/\(if j=k then u else U j).row w2/\(if j=k then u else U j).since w):=hid (fun j hj=>by
    by_cases e:j=k
    ·subst e;rw[if_pos rfl];exact⟨⟨e0,e1,e2,e3,e4,e5,e6,e7,e8,e9⟩,us,UA,UL⟩
    ·rw[if_neg e];obtain⟨⟨g0,g1,g2,g3,g4,g5,g6,g7,g8,g9⟩,o2,o3⟩:=U2.out j (by omega);exact⟨⟨(hold _ (by omega)).trans g0,(hold _ (by omega)).trans g1,(hold _ (by omega)).trans g2,(hold _ (by omega)).trans g3,(hold _ (by omega)).trans g4,(hold _ (by omega)).trans g5,(hold _ (by omega)).trans g6,(hold _ (by omega)).trans g7,(hold _ (by omega)).trans g8,(hold _ (by omega)).trans g9⟩,o2,o3⟩)
   clear e0 e1 e2 e3 e4 e5 e6 e7 e8 e9 hold hG' us;unfold Al.val Av.val Ao.val;go_wp2;refine⟨⟨k+1,by omega,by go_num,⟨fun j=>if j=k then u else U j,G',GN,fun j hj=>⟨(UN j hj).1,(UN j hj).2.1,RU _ (UN j hj).2.2.1,(UN j hj).2.2.2⟩⟩,?_⟩,by simp[intOf];omega⟩;exact((((((((((B2.setCell (Nat.le_refl _) _).setCell (Nat.le_refl _) _).setCell (Nat.le_refl _) _).setCell (Nat.le_refl _) _).setCell (Nat.le_refl _) _).setCell (Nat.le_refl _) _).setCell (Nat.le_refl _) _).setCell (Nat.le_refl _) _).setCell (Nat.le_refl _) _).setCell (Nat.le_refl _) _)
  ·go_wp2;go_ret;have e:k=n:=(by omega);subst e;exact⟨rfl,⟨U,G,GG,UU⟩,hB⟩
def Eo(w:World)(a:Option Addr)(n:Nat)(T:Nat->Ac):Prop:=∃b G,a=some ⟨b,0,none⟩/\w.rowIs b 86 (n*7) G/\∀j,j<n->G7 G (j*7) (T j)/\(T j).row w
def Ff(w:World)(a:Option Addr)(n:Nat)(T:Nat->Ab):Prop:=∃b G,a=some ⟨b,0,none⟩/\w.rowIs b 88 (n*10) G/\∀j,j<n->aC G (j*10) (T j)/\(T j).row w
theorem Eo.below{w w':World}{a:Option Addr}{n:Nat}{T:Nat->Ac}(h:Eo w a n T)(hb:Below w w w'):Eo w' a n T:=by
 obtain⟨b,G,e,hr,hj⟩:=h;exact⟨b,G,e,Dw hr hb,fun j h=>⟨(hj j h).1,Ac.row.below (hj j h).2 hb⟩⟩
theorem Ff.below{w w':World}{a:Option Addr}{n:Nat}{T:Nat->Ab}(h:Ff w a n T)(hb:Below w w w'):Ff w' a n T:=by
 obtain⟨b,G,e,hr,hj⟩:=h;exact⟨b,G,e,Dw hr hb,fun j h=>⟨(hj j h).1,Ab.row.below (hj j h).2 hb⟩⟩
theorem Eo.put{w:World}{a:Option Addr}{n:Nat}{T:Nat->Ac}{P ty N:Nat}{G:Nat->Value}(h:Eo w a n T)(hP:w.rowIs P ty N G)(h1:ty≠145)(h2:ty≠2)(h4:ty≠86)(i:Nat)(v:Value):Eo (w.setCell ⟨P,i,none⟩ v) a n T:=by
 obtain⟨b,G',e,hr,hj⟩:=h;exact⟨b,G',e,hr.setOther (Du hr hP h4.symm) v,fun j h=>⟨(hj j h).1,Ac.row.put (hj j h).2 hP h1 h2 i v⟩⟩
theorem Ff.put{w:World}{a:Option Addr}{n:Nat}{T:Nat->Ab}{P ty N:Nat}{G:Nat->Value}(h:Ff w a n T)(hP:w.rowIs P ty N G)(h1:ty≠145)(h2:ty≠2)(h3:ty≠9)(h4:ty≠88)(i:Nat)(v:Value):Ff (w.setCell ⟨P,i,none⟩ v) a n T:=by
 obtain⟨b,G',e,hr,hj⟩:=h;exact⟨b,G',e,hr.setOther (Du hr hP h4.symm) v,fun j h=>⟨(hj j h).1,Ab.row.put (hj j h).2 hP h1 h2 h3 i v⟩⟩
theorem Ah.row{W:World}{P t:Nat}{cs:Array Value}(h:Ah W P (.cells cs t)):W.rowIs P t cs.size (fun i=>cs[i]?.getD undef):=⟨cs,h,rfl,fun i hi=>by simp[hi]⟩
def Ar.same(k l:Ar):Prop:=l.tn=k.tn/\(∀j,j<k.tn->(k.T j).same (l.T j))/\l.on=k.on/\(∀j,j<k.on->(k.O j).same (l.O j))
def Ar.row(w:World)(k:Ar):Prop:=Eo w k.ta k.tn k.T/\Ff w k.oa k.on k.O
def Ar.since(B:Nat)(k:Ar):Prop:=(∀p,k.ta=some p->B<=p.block)/\(∀j,j<k.tn->(k.T j).since B)/\(∀p,k.oa=some p->B<=p.block)/\(∀j,j<k.on->(k.O j).since B)
theorem VZ(tmps:Array Value)(W:World)(P:Nat)(x y:Value)(h:Ah W P (.cells #[x,y] 36))(h2:tmps[2]? =some (.pointer (some ⟨P,0,none⟩))):
 (results Tryz.f7 tmps).run prog W= .ok (.agg #[x,y]) W:=by
 obtain⟨z0,z1⟩:=h.two;simp[results,Tryz.results7,go_sem,h2,z0,z1]
theorem Qt(k:Ar)(w:World)(hk:k.at w)(hs:k.small):
 Calls prog 7 #[k.val] w fun e w'=>∃l:Ar,e= .returned l.val/\k.same l/\l.ok=l.on/\(l.row w'/\l.since w)/\Below w w w':=by
 have HK:=hid hk;obtain⟨⟨n1,s1⟩,⟨n2,s2⟩⟩:=hs;have H1:=hid s1;have H2:=hid s2;clear hk s1 s2;have n5:No (.cells #[.slice none 0 0,.slice none 0 0] 36):=⟨⟩;have n7:No (.cells #[.slice k.ta k.tn k.tk,.slice k.oa k.on k.ok] 25):=⟨⟩;have n3:Nw (((w.alloc n7).alloc n5).alloc n5):=⟨⟩;have S0:Hid (Ah n3 w n7):=hid (((Ah.new w _).alloc _).alloc _);have R0:Hid (Ah n3 (w.heap.size+1) n5):=by
  have:=(Ah.new (w.alloc n7) n5).alloc n5;refine hid ?_;simpa using this
 have Q0:Hid (Ah n3 (w.heap.size+1+1) n5):=by
  have:=Ah.new ((w.alloc n7).alloc n5) n5;refine hid ?_;simpa using this
 have B0:Hid (Below w w n3):=hid ((((Below.refl _ w).alloc (Nat.le_refl _) _).alloc (by simp) _).alloc (by simp;omega) _);unfold Ar.val;go_enter func7,ntmps7
 go_wp2_with fail
 generalize (n3:World)=V0 at *;refine(NI _ _ _ k.T _ n1 (HK.out.2.2.1.below B0) H1).mono ?_;rintro e w1 ⟨rfl,⟨U,G,hG,hU⟩,hb1⟩;have T1:Hid (Eo w1 (some ⟨V0,0,none⟩) k.tn U):=hid ⟨_,G,rfl,hG,fun j h=>⟨(hU j h).1,(hU j h).2.2.1⟩⟩;have L1:Hid (∀j,j<k.tn->(U j).since w):=hid (fun j h=>(hU j h).2.2.2.low B0.out.size);have l1:=B0.out.size;have E1:Hid (∀j,j<k.tn->(k.T j).same (U j)):=hid (fun j h=>(hU j h).2.1);have Q1:=hid (Q0.out.below hb1);have S1:=hid (S0.out.below hb1);have R1:=hid (R0.out.below hb1);have B1:=hid (Ae B0 hb1);clear hG hU hb1 Q0 S0 R0 B0;generalize V0.heap.size=g1 at *;obtain⟨q0,q1⟩:=Q1.out.two;obtain⟨p0,p1⟩:=S1.out.two;have qf:=Q1.out.jC;have n4:Nv (.slice (some ⟨g1,0,none⟩) k.tn k.tn):=⟨⟩;have Q2:Hid (Ah (w1.setCell ⟨w.heap.size+1+1,0,none⟩ n4) (w.heap.size+1+1) (.cells #[.slice (some ⟨g1,0,none⟩) k.tn k.tn,.slice none 0 0] 36)):=hid (Q1.out.jB _);have S2:=hid (S1.out.other (Q:=w.heap.size+1+1) (i:=0) (by omega) n4);have R2:=hid (R1.out.other (Q:=w.heap.size+1+1) (i:=0) (by omega) n4);have T2:=hid (Eo.put T1 Q1.out.row (by decide) (by decide) (by decide) 0 n4);have B2:=hid (B1.out.setCell (p:=⟨w.heap.size+1+1,0,none⟩) (show w.heap.size<=w.heap.size+1+1 by omega) n4);go_wp2_with fail
 generalize w1.setCell ⟨w.heap.size+1+1,0,none⟩ n4=V1 at *;clear q0 q1 p0 p1 qf Q1 S1 R1 T1 B1;refine(Nx _ _ _ k.O _ n2 (HK.out.2.2.2.below B2) H2).mono ?_;rintro e w2 ⟨rfl,⟨X,G',hG,hU⟩,hb2⟩;have O3:Hid (Ff w2 (some ⟨V1,0,none⟩) k.on X):=hid ⟨_,G',rfl,hG,fun j h=>⟨(hU j h).1,(hU j h).2.2.1⟩⟩;have L2:Hid (∀j,j<k.on->(X j).since w):=hid (fun j h=>(hU j h).2.2.2.low B2.out.size);have l2:=B2.out.size;have E2:Hid (∀j,j<k.on->(k.O j).same (X j)):=hid (fun j h=>(hU j h).2.1);have Q3:=hid (Q2.out.below hb2);have R3:=hid (R2.out.below hb2);have T3:=hid (T2.out.below hb2);have B3:=hid (Ae B2 hb2);clear hG hU hb2 Q2 S2 R2 T2 B2;generalize V1.heap.size=g2 at *;obtain⟨q0,q1⟩:=Q3.out.two;obtain⟨p0,p1⟩:=R3.out.two;have qf:=Q3.out.jC;have pf:=R3.out.jC;have ne1:¬w.heap.size+1=w.heap.size+1+1:=by omega
 have ne2:¬w.heap.size+1+1=w.heap.size+1:=by omega
 have n6:Nv (.slice (some ⟨g2,0,none⟩) k.on k.on):=⟨⟩;have R4:=hid (R3.out.other (Q:=w.heap.size+1+1) (i:=1) (by omega) n6);have T4:=hid (Eo.put T3 Q3.out.row (by decide) (by decide) (by decide) 1 n6);have O4:=hid (Ff.put O3 Q3.out.row (by decide) (by decide) (by decide) (by decide) 1 n6);have B4:=hid (B3.out.setCell (p:=⟨w.heap.size+1+1,1,none⟩) (show w.heap.size<=w.heap.size+1+1 by omega) n6);have R5:=hid (R4.out.jB (i:=0) n4);have T5:=hid (Eo.put T4 R4.out.row (by decide) (by decide) (by decide) 0 n4);have O5:=hid (Ff.put O4 R4.out.row (by decide) (by decide) (by decide) (by decide) 0 n4);have T6:=hid (Eo.put T5 R5.out.row (by decide) (by decide) (by decide) 1 n6);have O6:=hid (Ff.put O5 R5.out.row (by decide) (by decide) (by decide) (by decide) 1 n6);go_wp2;refine bodyPost_ret (VZ _ _ (w.heap.size+1) n4 n6 (R5.out.jB (i:=1) _) rfl) rfl ⟨⟨some ⟨g1,0,none⟩,k.tn,k.tn,U,some ⟨g2,0,none⟩,k.on,k.on,X⟩,rfl,⟨rfl,E1,rfl,E2⟩,rfl,⟨⟨T6,O6⟩,⟨fun p e=>by cases e;exact l1,L1,fun p e=>by cases e;exact l2,L2⟩⟩,?_⟩;exact(B4.out.setCell (show w.heap.size<=w.heap.size+1 by omega) _).setCell (show w.heap.size<=w.heap.size+1 by omega) _
theorem Ao.row.at{w:World}{c:Ao}(h:c.row w)(hs:c.small):c.at w:=by
 obtain⟨b,e,hr⟩:=h;refine⟨by unfold maxLen;have:=hs.1;omega,fun _=>⟨b,0,e,hr.lt,fun i hi=>?_⟩,fun i hi=>by unfold maxLen;have:=hs.2 i hi;omega⟩;rw[Nat.zero_add];exact hr.cell hi
theorem Ab.row.at{w:World}{t:Ab}(h:t.row w)(hs:t.small):t.at w:=by
 obtain⟨⟨b1,e1,r1⟩,r2,⟨b3,e3,r3⟩,⟨b4,e4,r4⟩⟩:=h;obtain⟨s1,s2,s3,s4,s5⟩:=hs;refine⟨⟨by unfold maxLen;omega,?_⟩,Ao.row.at r2 s3,⟨by unfold maxLen;omega,?_⟩,⟨by unfold maxLen;omega,?_⟩,by unfold maxLen;omega⟩
 ·rw[e1];exact An.row r1
 ·rw[e3];exact AJ.row r3
 ·rw[e4];exact An.row r4
theorem Ac.same.small{t u:Ac}(h:t.same u)(hs:t.small):u.small:=by
 obtain⟨_,_,⟨e1,_⟩,_,⟨e2,_⟩,⟨e3,_⟩,_⟩:=h;unfold Ac.small at *;rw[e1,e2,e3];exact hs
theorem Ab.same.small{t u:Ab}(h:t.same u)(hs:t.small):u.small:=by
 obtain⟨_,_,_,_,⟨e1,_⟩,e2,⟨e3,e4⟩,⟨e5,_⟩,_,⟨e6,_⟩⟩:=h;unfold Ab.small Ao.small at *;rw[e1,e2,e3,e4,e5,e6];exact hs
theorem Ar.same.small{k l:Ar}(h:k.same l)(hs:k.small):l.small:=by
 obtain⟨e1,h1,e2,h2⟩:=h;obtain⟨⟨n1,s1⟩,⟨n2,s2⟩⟩:=hs;unfold Ar.small;rw[e1,e2];exact⟨⟨n1,fun i hi=>Ac.same.small (h1 i hi) (s1 i hi)⟩,⟨n2,fun i hi=>Ab.same.small (h2 i hi) (s2 i hi)⟩⟩
theorem aC.cells{w:World}{b ty N:Nat}{G:Nat->Value}{o:Nat}{t:Ab}(hr:w.rowIs b ty N G)(h:aC G o t)(ho:o+10<=N):Ci w b o t:=
 ⟨(hr.cell (by omega)).trans (congrArg some h.g0),(hr.cell (by omega)).trans (congrArg some h.g1),(hr.cell (by omega)).trans (congrArg some h.g2),(hr.cell (by omega)).trans (congrArg some h.g3),(hr.cell (by omega)).trans (congrArg some h.g4),(hr.cell (by omega)).trans (congrArg some h.g5),(hr.cell (by omega)).trans (congrArg some h.g6),(hr.cell (by omega)).trans (congrArg some h.g7),(hr.cell (by omega)).trans (congrArg some h.g8),(hr.cell (by omega)).trans (congrArg some h.g9)⟩
theorem Eo.at{w:World}{a:Option Addr}{n:Nat}{T:Nat->Ac}(h:Eo w a n T)(hs:∀i,i<n->(T i).small):E9 w a n T:=fun _=>by
 obtain⟨b,G,e,hr,hj⟩:=h;refine⟨b,0,e,hr.lt,fun i hi=>⟨?_,Ac.row.at (hj i hi).2 (hs i hi)⟩⟩;rw[Nat.zero_add];exact G7.cells hr (hj i hi).1 (by omega)
theorem Ff.at{w:World}{a:Option Addr}{n:Nat}{T:Nat->Ab}(h:Ff w a n T)(hs:∀i,i<n->(T i).small):Et w a n T:=fun _=>by
 obtain⟨b,G,e,hr,hj⟩:=h;refine⟨b,0,e,hr.lt,fun i hi=>⟨?_,Ab.row.at (hj i hi).2 (hs i hi)⟩⟩;rw[Nat.zero_add];exact aC.cells hr (hj i hi).1 (by omega)
theorem Ar.row.at{w:World}{k:Ar}(h:k.row w)(hs:k.small):k.at w:=
 ⟨by unfold maxLen;have:=hs.1.1;omega,by unfold maxLen;have:=hs.2.1;omega,Eo.at h.1 hs.1.2,Ff.at h.2 hs.2.2⟩
theorem TV(t u:Ac)(w:World)(ht:t.at w)(hu:u.at w)(h:t.same u):
 Calls prog 66 #[t.val,u.val] w fun e w'=>e= .returned (.bool true)/\Below w w w':=by
 obtain⟨id,b1,⟨a1,n1,k1,f1,g1⟩,b2,⟨a2,n2,k2,f2,g2⟩,⟨a3,n3,k3,h3⟩,m⟩:=t;obtain⟨id',b1',⟨a1',n1',k1',f1',g1'⟩,b2',⟨a2',n2',k2',f2',g2'⟩,⟨a3',n3',k3',h3'⟩,m'⟩:=u;obtain⟨e1,e2,⟨e3,e4,e5⟩,e6,⟨e7,e8,e9⟩,⟨e10,e11⟩,e12⟩:=h;simp only at e1 e2 e3 e4 e5 e6 e7 e8 e9 e10 e11 e12;subst e1 e2 e3 e4 e5 e6 e7 e8 e9 e10 e11 e12;exact OD _ _ _ _ _ _ f1' g1' _ _ _ _ f2' g2' _ _ _ h3' _ _ _ _ _ _ w ht.1.1 ht.2.1.1 ht.2.2.1 ht.1.2 ht.2.1.2 ht.2.2.2 hu.1.2 hu.2.1.2 hu.2.2.2
theorem Oy(a a':Option Addr)(n cap cap':Nat)(T U:Nat->Ac)(w:World)(hn:n<=maxLen)(hT:E9 w a n T)(hU:E9 w a' n U)(hs:∀i,i<n->(T i).same (U i)):
 Calls prog 27 #[.slice a n cap,.slice a' n cap'] w fun e w'=>e= .returned (.bool true)/\Below w w w':=by
 unfold maxLen at hn;have HT:=hid hT;have HU:=hid hU;have HS:=hid hs;clear hT hU hs;go_enter func27,ntmps27
 go_wp2;go_loopw [5] (fun i wr=>∃k:Nat,k<=n/\i= .int .i64 k/\Below w w wr) (fun i _=>n-(intOf i).toNat)
 case atStart=>exact⟨0,Nat.zero_le _,rfl,Below.refl _ _⟩
 case round=>
  obtain⟨k,hk,rfl,hB⟩:=hrel;by_cases hlt':k<n
  ·obtain⟨b,off,rfl,hl1,hc⟩:=HT.out.below hB (by omega);obtain⟨b',off',rfl,hl2,hc'⟩:=HU.out.below hB (by omega);obtain⟨q,qa⟩:=hc k hlt';obtain⟨r,ra⟩:=hc' k hlt';have Q:=hid (show Dz wr.drew b (off+k*7) (T k) from⟨q.c0,q.c1,q.c2,q.c3,q.c4,q.c5,q.c6⟩);have R:=hid (show Dz wr.drew b' (off'+k*7) (U k) from⟨r.c0,r.c1,r.c2,r.c3,r.c4,r.c5,r.c6⟩);have EQ:=hid (TV (T k) (U k) wr.drew (qa.below (Below.refl _ wr).drew) (ra.below (Below.refl _ wr).drew) (HS k hlt'));unfold Ac.val at EQ;obtain⟨g0,g1,g2,g3,g4,g5,g6⟩:=q;obtain⟨h0,h1,h2,h3,h4,h5,h6⟩:=r;have i0:(0:Int)<=(k:Int):=(by omega);have i1:(k:Int)<(n:Int):=(by omega);have hl1':b<wr.drew.heap.size:=hl1;have hl2':b'<wr.drew.heap.size:=hl2;clear hc hc' qa ra;go_wp2_with fail
   go_region_held3(fun w'=>w'.cell? ⟨b,off+k*7,none⟩=some (.int .i64 (T k).id)/\w'.cell? ⟨b,off+k*7+1,none⟩=some (.int .i64 (T k).b1)/\w'.cell? ⟨b,off+k*7+2,none⟩=some ((T k).c1.val)/\w'.cell? ⟨b,off+k*7+3,none⟩=some (.int .i64 (T k).b2)/\w'.cell? ⟨b,off+k*7+4,none⟩=some ((T k).c2.val)/\w'.cell? ⟨b,off+k*7+5,none⟩=some ((T k).own.val)/\w'.cell? ⟨b,off+k*7+6,none⟩=some (.int .i64 (T k).made)/\w'.cell? ⟨b',off'+k*7,none⟩=some (.int .i64 (U k).id)/\w'.cell? ⟨b',off'+k*7+1,none⟩=some (.int .i64 (U k).b1)/\w'.cell? ⟨b',off'+k*7+2,none⟩=some ((U k).c1.val)/\w'.cell? ⟨b',off'+k*7+3,none⟩=some (.int .i64 (U k).b2)/\w'.cell? ⟨b',off'+k*7+4,none⟩=some ((U k).c2.val)/\w'.cell? ⟨b',off'+k*7+5,none⟩=some ((U k).own.val)/\w'.cell? ⟨b',off'+k*7+6,none⟩=some (.int .i64 (U k).made)) (go_keep)
    (first|(go_at_call 66;refine EQ.out.mono ?_;rintro e w1 ⟨rfl,hb1⟩;obtain⟨p0,p1,p2,p3,p4,p5,p6⟩:=Q.out.below hl1' hb1;obtain⟨q0,q1,q2,q3,q4,q5,q6⟩:=R.out.below hl2' hb1))
   have hB1:Below w w w1:=hB.drew.trans (hb1.mono hB.size);clear g0 g1 g2 g3 g4 g5 g6 h0 h1 h2 h3 h4 h5 h6 p0 p1 p2 p3 p4 p5 p6 q0 q1 q2 q3 q4 q5 q6 hb1;go_wp2;go_roundw;case rel=>exact⟨k+1,by omega,by go_num,hB1⟩
   case measure=>simp[intOf];omega
  ·go_wp2;go_ret;exact⟨rfl,hB⟩
theorem Mn(a a':Option Addr)(n cap cap':Nat)(f:Nat->ByteArray)(w:World)(hn:n<=maxLen)(hc:Ej w a n f)(hc':Ej w a' n f):
 Calls prog 122 #[.slice a n cap,.slice a' n cap'] w fun e w'=>e= .returned (.bool true)/\Below w w w':=by
 unfold maxLen at hn;go_enter func122,ntmps122
 go_wp2;go_loopw [5] (fun i wr=>∃k:Nat,k<=n/\i= .int .i64 k/\Below w w wr) (fun i _=>n-(intOf i).toNat)
 case atStart=>exact⟨0,Nat.zero_le _,rfl,Below.refl _ _⟩
 case round=>
  obtain⟨k,hk,rfl,hB⟩:=hrel;by_cases hlt':k<n
  ·obtain⟨b,off,rfl,hlt,hc⟩:=hc (by omega);obtain⟨b',off',rfl,hlt2,hc'⟩:=hc' (by omega);have g1:wr.cell? ⟨b,off+k,none⟩=some (.string (f k)):=(hB.cell (p:=⟨b,_,none⟩) hlt).trans (hc k hlt');have g2:wr.cell? ⟨b',off'+k,none⟩=some (.string (f k)):=(hB.cell (p:=⟨b',_,none⟩) hlt2).trans (hc' k hlt');clear hc hc';have i0:(0:Int)<=(k:Int):=(by omega);have i1:(k:Int)<(n:Int):=(by omega);go_wp2_with fail
   go_quiet(fail)
   go_wp2;go_roundw;case rel=>exact⟨k+1,by omega,by go_num,below_drewN hB _⟩
   case measure=>simp[intOf];omega
  ·clear hc hc';go_wp2;go_ret;exact⟨rfl,hB⟩
def Ab.blk(t:Ab):Obj:= .cells #[t.id,t.kind,t.up,t.b1,t.c1.val,.string t.data,t.jA.val,t.own.val,t.b2,t.c2.val] 88
theorem Pb(b:Int)(c d:Al)(w:World)(hc:c.at w)(hd:d.at w)(h:c.same d):
 Calls prog 29 #[.agg #[.int .i64 b,c.val],.agg #[.int .i64 b,d.val]] w fun e w'=>e= .returned (.bool true)/\Below w w w':=by
 obtain⟨a,n,k,f,g⟩:=c;obtain⟨a',n',k',f',g'⟩:=d;obtain⟨e1,e2,e3⟩:=h;simp only at e1 e2 e3;subst e1 e2 e3;exact E8 _ _ _ _ _ _ f' g' w hc.1 hc.2 hd.2
theorem Ys(c d:Ao)(w:World)(hc:c.at w)(hd:d.at w)(h:c.same d):
 Calls prog 122 #[c.val,d.val] w fun e w'=>e= .returned (.bool true)/\Below w w w':=by
 obtain⟨a,n,k,f⟩:=c;obtain⟨a',n',k',f'⟩:=d;obtain⟨e1,e2⟩:=h;simp only at e1 e2;subst e1 e2;exact Mn _ _ _ _ _ f' w hc.1 hc.2.1 hd.2.1
theorem Y5(c d:Av)(w:World)(hc:c.at w)(hd:d.at w)(h:c.same d):
 Calls prog 121 #[c.val,d.val] w fun e w'=>e= .returned (.bool true)/\Below w w w':=by
 obtain⟨a,n,k,f⟩:=c;obtain⟨a',n',k',f'⟩:=d;obtain⟨e1,e2⟩:=h;simp only at e1 e2;subst e1 e2;exact I4 _ _ _ _ _ f' w hc.1 hc.2 hd.2
theorem SX(t u:Ab)(w:World)(ht:t.at w)(hu:u.at w)(h:t.same u):
 Calls prog 67 #[t.val,u.val] w fun e w'=>e= .returned (.bool true)/\Below w w w':=by
 obtain⟨h1,h2,h3,h4,s1,h5,s2,s3,h6,s4⟩:=h;obtain⟨ui,uk,uu,ub1,uc1,ud,uit,uo,ub2,uc2⟩:=u;simp only at h1 h2 h3 h4 h5 h6 s1 s2 s3 s4;subst h1 h2 h3 h4 h5 h6;have n1:No (.cells #[t.id,t.kind,t.up,t.b1,uc1.val,.string t.data,uit.val,uo.val,t.b2,uc2.val] 88):=⟨⟩;have B0:=hid (((Below.refl _ w).alloc (Nat.le_refl _) t.blk).alloc (by simp) n1);have P0:=hid ((Ah.new w t.blk).alloc n1);have Q0:Hid (Ah ((w.alloc t.blk).alloc n1) (w.heap.size+1) n1):=by
  have:=Ah.new (w.alloc t.blk) n1;refine hid ?_;simpa using this
 have T:=hid ht;have U:=hid hu;have E1:Hid (∀W,Below w w W->Calls prog 29 #[.agg #[t.b1,t.c1.val],.agg #[t.b1,uc1.val]] W fun e w'=>e= .returned (.bool true)/\Below W W w'):=hid (fun W hW=>Pb _ _ _ W (T.out.1.below hW) (U.out.1.below hW) s1);have E2:Hid (∀W,Below w w W->Calls prog 122 #[t.jA.val,uit.val] W fun e w'=>e= .returned (.bool true)/\Below W W w'):=hid (fun W hW=>Ys _ _ W (T.out.2.1.below hW) (U.out.2.1.below hW) s2);have E3:Hid (∀W,Below w w W->Calls prog 121 #[t.own.val,uo.val] W fun e w'=>e= .returned (.bool true)/\Below W W w'):=hid (fun W hW=>Y5 _ _ W (T.out.2.2.1.below hW) (U.out.2.2.1.below hW) s3);have E4:Hid (∀W,Below w w W->Calls prog 29 #[.agg #[t.b2,t.c2.val],.agg #[t.b2,uc2.val]] W fun e w'=>e= .returned (.bool true)/\Below W W w'):=hid (fun W hW=>Pb _ _ _ W (T.out.2.2.2.1.below hW) (U.out.2.2.2.1.below hW) s4);unfold Ab.val;unfold Ab.blk at B0 P0 Q0;simp only;clear ht hu s1 s2 s3 s4;go_enter func67,ntmps67
 go_wp2_with fail
 refine(E1 _ B0).mono ?_;rintro e w1 ⟨rfl,hb1⟩;have P1:=hid (P0.out.below hb1);have Q1:=hid (Q0.out.below hb1);have B1:=hid (Ae B0 hb1);clear P0 Q0 B0 hb1;obtain⟨p0,p1,p2,p3,p4,p5,p6,p7,p8,p9⟩:=P1.out.jE;obtain⟨q0,q1,q2,q3,q4,q5,q6,q7,q8,q9⟩:=Q1.out.jE;go_wp2_with fail
 refine(E2 _ B1).mono ?_;rintro e w2 ⟨rfl,hb2⟩;have P2:=hid (P1.out.below hb2);have Q2:=hid (Q1.out.below hb2);have B2:=hid (Ae B1 hb2);clear p0 p1 p2 p3 p4 p5 p6 p7 p8 p9 q0 q1 q2 q3 q4 q5 q6 q7 q8 q9 P1 Q1 B1 hb2;obtain⟨p0,p1,p2,p3,p4,p5,p6,p7,p8,p9⟩:=P2.out.jE;obtain⟨q0,q1,q2,q3,q4,q5,q6,q7,q8,q9⟩:=Q2.out.jE;go_wp2_with fail
 refine(E3 _ B2).mono ?_;rintro e w3 ⟨rfl,hb3⟩;have P3:=hid (P2.out.below hb3);have Q3:=hid (Q2.out.below hb3);have B3:=hid (Ae B2 hb3);clear p0 p1 p2 p3 p4 p5 p6 p7 p8 p9 q0 q1 q2 q3 q4 q5 q6 q7 q8 q9 P2 Q2 B2 hb3;obtain⟨p0,p1,p2,p3,p4,p5,p6,p7,p8,p9⟩:=P3.out.jE;obtain⟨q0,q1,q2,q3,q4,q5,q6,q7,q8,q9⟩:=Q3.out.jE;go_wp2_with fail
 refine(E4 _ B3).mono ?_;rintro e w4 ⟨rfl,hb4⟩;have B4:=Ae B3 hb4;clear p0 p1 p2 p3 p4 p5 p6 p7 p8 p9 q0 q1 q2 q3 q4 q5 q6 q7 q8 q9 P3 Q3 B3 hb4;go_wp2;go_ret;exact⟨rfl,B4⟩
theorem Od(a a':Option Addr)(n cap cap':Nat)(T U:Nat->Ab)(w:World)(hn:n<=maxLen)(hT:Et w a n T)(hU:Et w a' n U)(hs:∀i,i<n->(T i).same (U i)):
 Calls prog 28 #[.slice a n cap,.slice a' n cap'] w fun e w'=>e= .returned (.bool true)/\Below w w w':=by
 unfold maxLen at hn;have HT:=hid hT;have HU:=hid hU;have HS:=hid hs;clear hT hU hs;go_enter func28,ntmps28
 go_wp2;go_loopw [5] (fun i wr=>∃k:Nat,k<=n/\i= .int .i64 k/\Below w w wr) (fun i _=>n-(intOf i).toNat)
 case atStart=>exact⟨0,Nat.zero_le _,rfl,Below.refl _ _⟩
 case round=>
  obtain⟨k,hk,rfl,hB⟩:=hrel;by_cases hlt':k<n
  ·obtain⟨b,off,rfl,hl1,hc⟩:=HT.out.below hB (by omega);obtain⟨b',off',rfl,hl2,hc'⟩:=HU.out.below hB (by omega);obtain⟨q,qa⟩:=hc k hlt';obtain⟨r,ra⟩:=hc' k hlt';have Q:=hid (show Ci wr.drew b (off+k*10) (T k) from⟨q.c0,q.c1,q.c2,q.c3,q.c4,q.c5,q.c6,q.c7,q.c8,q.c9⟩);have R:=hid (show Ci wr.drew b' (off'+k*10) (U k) from⟨r.c0,r.c1,r.c2,r.c3,r.c4,r.c5,r.c6,r.c7,r.c8,r.c9⟩);have EQ:=hid (SX (T k) (U k) wr.drew (qa.below (Below.refl _ wr).drew) (ra.below (Below.refl _ wr).drew) (HS k hlt'));unfold Ab.val at EQ;obtain⟨g0,g1,g2,g3,g4,g5,g6,g7,g8,g9⟩:=q;obtain⟨h0,h1,h2,h3,h4,h5,h6,h7,h8,h9⟩:=r;have i0:(0:Int)<=(k:Int):=(by omega);have i1:(k:Int)<(n:Int):=(by omega);have hl1':b<wr.drew.heap.size:=hl1;have hl2':b'<wr.drew.heap.size:=hl2;clear hc hc' qa ra;go_wp2_with fail
   go_region_held3(fun w'=>w'.cell? ⟨b,off+k*10,none⟩=some (.int .i64 (T k).id)/\w'.cell? ⟨b,off+k*10+1,none⟩=some (.int .i64 (T k).kind)/\w'.cell? ⟨b,off+k*10+2,none⟩=some (.int .i64 (T k).up)/\w'.cell? ⟨b,off+k*10+3,none⟩=some (.int .i64 (T k).b1)/\w'.cell? ⟨b,off+k*10+4,none⟩=some ((T k).c1.val)/\w'.cell? ⟨b,off+k*10+5,none⟩=some (.string (T k).data)/\w'.cell? ⟨b,off+k*10+6,none⟩=some ((T k).jA.val)/\w'.cell? ⟨b,off+k*10+7,none⟩=some ((T k).own.val)/\w'.cell? ⟨b,off+k*10+8,none⟩=some (.int .i64 (T k).b2)/\w'.cell? ⟨b,off+k*10+9,none⟩=some ((T k).c2.val)/\w'.cell? ⟨b',off'+k*10,none⟩=some (.int .i64 (U k).id)/\w'.cell? ⟨b',off'+k*10+1,none⟩=some (.int .i64 (U k).kind)/\w'.cell? ⟨b',off'+k*10+2,none⟩=some (.int .i64 (U k).up)/\w'.cell? ⟨b',off'+k*10+3,none⟩=some (.int .i64 (U k).b1)/\w'.cell? ⟨b',off'+k*10+4,none⟩=some ((U k).c1.val)/\w'.cell? ⟨b',off'+k*10+5,none⟩=some (.string (U k).data)/\w'.cell? ⟨b',off'+k*10+6,none⟩=some ((U k).jA.val)/\w'.cell? ⟨b',off'+k*10+7,none⟩=some ((U k).own.val)/\w'.cell? ⟨b',off'+k*10+8,none⟩=some (.int .i64 (U k).b2)/\w'.cell? ⟨b',off'+k*10+9,none⟩=some ((U k).c2.val)) (go_keep)
    (first|(go_at_call 67;refine EQ.out.mono ?_;rintro e w1 ⟨rfl,hb1⟩;obtain⟨p0,p1,p2,p3,p4,p5,p6,p7,p8,p9⟩:=Q.out.below hl1' hb1;obtain⟨q0,q1,q2,q3,q4,q5,q6,q7,q8,q9⟩:=R.out.below hl2' hb1))
   have hB1:Below w w w1:=hB.drew.trans (hb1.mono hB.size);clear g0 g1 g2 g3 g4 g5 g6 g7 g8 g9 h0 h1 h2 h3 h4 h5 h6 h7 h8 h9 p0 p1 p2 p3 p4 p5 p6 p7 p8 p9 q0 q1 q2 q3 q4 q5 q6 q7 q8 q9 hb1;go_wp2;go_roundw;case rel=>exact⟨k+1,by omega,by go_num,hB1⟩
   case measure=>simp[intOf];omega
  ·go_wp2;go_ret;exact⟨rfl,hB⟩
theorem MV(k l:Ar)(w:World)(hk:k.at w)(hl:l.at w)(h:k.same l):
 Calls prog 10 #[k.val,l.val] w fun e w'=>e= .returned (.bool true)/\Below w w w':=by
 obtain⟨lta,ltn,ltk,lT,loa,lon,lok,lO⟩:=l;obtain⟨h1,h2,h3,h4⟩:=h;simp only at h1 h2 h3 h4;subst h1 h3;have n1:No (.cells #[.slice lta k.tn ltk,.slice loa k.on lok] 36):=⟨⟩;have n2:No (.cells #[.slice k.ta k.tn k.tk,.slice k.oa k.on k.ok] 36):=⟨⟩;have P0:=hid ((Ah.new w n2).alloc n1);have Q0:Hid (Ah ((w.alloc n2).alloc n1) (w.heap.size+1) n1):=by
  have:=Ah.new (w.alloc n2) n1;refine hid ?_;simpa using this
 have B0:=hid (((Below.refl _ w).alloc (Nat.le_refl _) n2).alloc (by simp) n1);have E1:Hid (∀W,Below w w W->Calls prog 27 #[.slice k.ta k.tn k.tk,.slice lta k.tn ltk] W fun e w'=>e= .returned (.bool true)/\Below W W w'):=hid (fun W hW=>Oy _ _ _ _ _ k.T lT W hk.1 (hk.2.2.1.below hW) (hl.2.2.1.below hW) h2);have E2:Hid (∀W,Below w w W->Calls prog 28 #[.slice k.oa k.on k.ok,.slice loa k.on lok] W fun e w'=>e= .returned (.bool true)/\Below W W w'):=hid (fun W hW=>Od _ _ _ _ _ k.O lO W hk.2.1 (hk.2.2.2.below hW) (hl.2.2.2.below hW) h4);unfold Ar.val;simp only;clear hk hl h2 h4;go_enter func10,ntmps10
 go_wp2_with fail
 refine(E1 _ B0).mono ?_;rintro e w1 ⟨rfl,hb1⟩;have P1:=hid (P0.out.below hb1);have Q1:=hid (Q0.out.below hb1);have B1:=hid (Ae B0 hb1);clear P0 Q0 B0 hb1;obtain⟨p0,p1⟩:=P1.out.two;obtain⟨q0,q1⟩:=Q1.out.two;go_wp2_with fail
 refine(E2 _ B1).mono ?_;rintro e w2 ⟨rfl,hb2⟩;have B2:=Ae B1 hb2;clear p0 p1 q0 q1 P1 Q1 B1 hb2;go_wp2;go_ret;exact⟨rfl,B2⟩
theorem one_byte(w:World)(x:Int)(h0:0<=x)(h1:x<256):
 (convert 182 9 (Value.slice (some ⟨w,0,none⟩) 1 1)).run prog (w.alloc (.cells #[.int .u8 x] 5))= .ok (.string ⟨#[UInt8.ofNat x.toNat]⟩) (w.alloc (.cells #[.int .u8 x] 5)):=by
 refine run_convert_bytes_back (P:=prog) (w.alloc (.cells #[.int .u8 x] 5)) 182 9 5 ⟨w,0,none⟩ 1 [UInt8.ofNat x.toNat] underlying182 underlying5 underlying9 fun j hj=>?_;obtain rfl:j=0:=by simpa using hj
 have e:(((UInt8.ofNat x.toNat).toNat:Nat):Int)=x:=by
  rw[UInt8.toNat_ofNat_of_lt' (by simp[UInt8.size];omega)];omega
 simp only[List.getElem_cons_zero,e];simp[Addr.add]
theorem Gp(b:UInt8)(l:List UInt8):((⟨#[b]⟩:ByteArray)++(⟨l.toArray⟩:ByteArray))=⟨(b::l).toArray⟩:=by
 apply ByteArray.ext;apply Array.ext';simp
def Ju(n:Nat):List UInt8:=if _h:n=0 then[]else Ju (n/10)++[UInt8.ofNat (48+n%10)]
termination_by n
decreasing_by omega
theorem Pt:Ju 0=[]:=by rw[Ju,dif_pos rfl]
theorem Rv{n:Nat}(h:¬n=0):Ju n=Ju (n/10)++[UInt8.ofNat (48+n%10)]:=by rw[Ju,dif_neg h]
theorem Xl(n:Nat):(Ju n).length<=n:=by
 induction n using Nat.strongRecOn with
 |_ n ih=>
  by_cases h:n=0
  ·subst h;rw[Pt];simp
  ·rw[Rv h,List.length_append];have:=ih (n/10) (by omega);simp;omega
theorem FR(n:Nat)(w:World)(h1:0<n)(hn:n<=100000000000000000):
 Calls prog 71 #[.int .i64 n] w fun e w'=>e= .returned (.string ⟨(109::Ju n).toArray⟩)/\Below w w w':=by
 have hlen:=Xl n;go_enter func71,ntmps71
 go_wp2;go_loopw [0,3] (fun x s wr=>∃(k:Nat) (l:List UInt8),k<=n/\x= .int .i64 k/\s= .string ⟨l.toArray⟩/\Ju n=Ju k++l/\Below w w wr) (fun x _ _=>(intOf x).toNat)
 case atStart=>exact⟨n,[],Nat.le_refl _,rfl,rfl,by simp,Below.refl _ _⟩
 case round=>
  obtain⟨k,l,hk,rfl,rfl,hd,hB⟩:=hrel;have hl:l.length<=100000000000000001:=by
   have:=congrArg List.length hd;rw[List.length_append]at this;omega
  have HD:Hid (Ju n=Ju k++l):=hd;clear hd;by_cases h0:k=0
  ·subst h0;go_wp2;go_ret;refine⟨?_,hB⟩;rw[Gp,HD.out,Pt];rfl
  ·have h0':(0:Int)<(k:Int):=(by omega);obtain⟨b,hb⟩:∃b,b=UInt8.ofNat (48+(k:Int)%10).toNat:=⟨_,rfl⟩;have ob:=fun(w:World)=>one_byte w (48+(k:Int)%10) (by omega) (by omega);rw[<-hb]at ob;have HB:Hid (b=UInt8.ofNat (48+k%10)):=hb;clear hb;go_wp2;go_roundw;case rel=>
    refine⟨k/10,b::l,by omega,by go_num,by rw[Gp],?_,hB.alloc hB.size _⟩;rw[HD.out,Rv h0,<-HB.out,List.append_assoc];rfl
   case measure=>simp[intOf];omega
open Go
structure Mk(lo hi:Nat)(w w':World):Prop where
 os:w'.os=w.os
 tape:w'.tape=w.tape
 output:w'.output=w.output
 size:w.heap.size<=w'.heap.size
 block:∀k,k<w.heap.size->(k<lo∨hi<=k)->w'.heap[k]? =w.heap[k]?
 rows:∀b ty m F,w.rowIs b ty m F->∃F',w'.rowIs b ty m F'
structure Ib(lo hi:Nat)(w w':World):Prop extends Mk lo hi w w' where
 big:∀b ty m F,ty≠145->ty≠2->ty≠9->w.rowIs b ty m F->w'.rowIs b ty m F
theorem Mk.refl(lo hi:Nat)(w:World):Mk lo hi w w:=⟨rfl,rfl,rfl,Nat.le_refl _,fun _ _ _=>rfl,fun _ _ _ F h=>⟨F,h⟩⟩
theorem Ib.refl(lo hi:Nat)(w:World):Ib lo hi w w:=⟨Mk.refl lo hi w,fun _ _ _ _ _ _ _ h=>h⟩
theorem Mk.trans{lo hi:Nat}{a b c:World}(h:Mk lo hi a b)(k:Mk lo hi b c):Mk lo hi a c:=
 ⟨k.os.trans h.os,k.tape.trans h.tape,k.output.trans h.output,Nat.le_trans h.size k.size,fun j hj hn=>(k.block j (Nat.lt_of_lt_of_le hj h.size) hn).trans (h.block j hj hn),fun b ty m F hF=>by
   obtain⟨F',h'⟩:=h.rows b ty m F hF;exact k.rows b ty m F' h'⟩
theorem Ib.trans{lo hi:Nat}{a b c:World}(h:Ib lo hi a b)(k:Ib lo hi b c):Ib lo hi a c:=
 ⟨h.toMk.trans k.toMk,fun b ty m F h1 h2 h3 hF=>k.big b ty m F h1 h2 h3 (h.big b ty m F h1 h2 h3 hF)⟩
theorem Ib.of_below{lo hi:Nat}{w w':World}(h:Below w w w'):Ib lo hi w w':=
 ⟨⟨h.os,h.tape,h.output,h.size,fun k hk _=>h.block k hk,fun _ _ _ F hF=>⟨F,Dw hF h⟩⟩,fun _ _ _ _ _ _ _ hF=>Dw hF h⟩
theorem Mk.set{lo hi:Nat}{w wr:World}(h:Mk lo hi w wr){b:Nat}(h1:lo<=b)(h2:b<hi)(i:Nat)(v:Value):Mk lo hi w (wr.setCell ⟨b,i,none⟩ v):=
 ⟨h.os,h.tape,h.output,by rw[nblk_setCell];exact h.size,fun k hk hn=>(blk_setCell_other _ _ _ _ (by dsimp only;omega)).trans (h.block k hk hn),fun b' ty m F hF=>by
   obtain⟨F',h'⟩:=h.rows b' ty m F hF;by_cases e:b'=b
   ·subst e;exact⟨_,h'.set i v⟩
   ·exact⟨F',h'.setOther (a:=⟨b,i,none⟩) e v⟩⟩
theorem Ib.set{lo hi:Nat}{w wr:World}(h:Ib lo hi w wr){b ty m:Nat}{F:Nat->Value}(hb:wr.rowIs b ty m F)(ht:ty=145∨ty=2∨ty=9)(h1:lo<=b)(h2:b<hi)(i:Nat)(v:Value):Ib lo hi w (wr.setCell ⟨b,i,none⟩ v):=
 ⟨h.toMk.set h1 h2 i v,fun b' ty' m' F' n1 n2 n3 hF=>by
   have hF':=h.big b' ty' m' F' n1 n2 n3 hF;exact hF'.setOther (a:=⟨b,i,none⟩) (Du hF' hb (by rcases ht with rfl|rfl|rfl<;>assumption)) v⟩
def Al.room(lo hi:Nat)(w:World)(c:Al):Prop:=c.n<=1048576/\(0<c.n->∃b m F,c.a=some ⟨b,0,none⟩/\lo<=b/\b<hi/\c.n*2<=m/\w.rowIs b 145 m F)
def Av.room(lo hi:Nat)(w:World)(c:Av):Prop:=c.n<=1048576/\(0<c.n->∃b m F,c.a=some ⟨b,0,none⟩/\lo<=b/\b<hi/\c.n<=m/\w.rowIs b 2 m F)
def Ao.room(lo hi:Nat)(w:World)(c:Ao):Prop:=c.n<=1048576/\(0<c.n->∃b m F,c.a=some ⟨b,0,none⟩/\lo<=b/\b<hi/\c.n<=m/\w.rowIs b 9 m F)
theorem Al.room.mk{lo hi:Nat}{w w':World}{c:Al}(h:c.room lo hi w)(k:Mk lo hi w w'):c.room lo hi w':=⟨h.1,fun hn=>by
 obtain⟨b,m,F,e,h1,h2,h3,h4⟩:=h.2 hn;obtain⟨F',h'⟩:=k.rows b 145 m F h4;exact⟨b,m,F',e,h1,h2,h3,h'⟩⟩
theorem Av.room.mk{lo hi:Nat}{w w':World}{c:Av}(h:c.room lo hi w)(k:Mk lo hi w w'):c.room lo hi w':=⟨h.1,fun hn=>by
 obtain⟨b,m,F,e,h1,h2,h3,h4⟩:=h.2 hn;obtain⟨F',h'⟩:=k.rows b 2 m F h4;exact⟨b,m,F',e,h1,h2,h3,h'⟩⟩
theorem Ao.room.mk{lo hi:Nat}{w w':World}{c:Ao}(h:c.room lo hi w)(k:Mk lo hi w w'):c.room lo hi w':=⟨h.1,fun hn=>by
 obtain⟨b,m,F,e,h1,h2,h3,h4⟩:=h.2 hn;obtain⟨F',h'⟩:=k.rows b 9 m F h4;exact⟨b,m,F',e,h1,h2,h3,h'⟩⟩
theorem Gq(c:Al)(lo hi:Nat)(k0:Int)(w:World)(hr:c.room lo hi w)(h0:0<=k0)(h1:k0<=1000000000000000):
 Calls prog 69 #[c.val,.int .i64 k0] w fun e w'=>e= .returned (.int .i64 (k0+2*c.n))/\Ib lo hi w w':=by
 obtain⟨a,n,cap,f,g⟩:=c;obtain⟨hn,hr⟩:=hr;simp only at hn hr;unfold Al.val;simp only;have HR:=hid hr;clear hr;go_enter func69,ntmps69
 go_wp2;go_loopw [1,5] (fun kk i wr=>∃j:Nat,j<=n/\i= .int .i64 j/\kk= .int .i64 (k0+2*j)/\Hid (Ib lo hi w wr)) (fun _ i _=>n-(intOf i).toNat)
 case atStart=>exact⟨0,Nat.zero_le _,rfl,by simp,hid (Ib.refl _ _ _)⟩
 case round=>
  obtain⟨j,hj,rfl,rfl,HM⟩:=hrel;by_cases hlt:j<n
  ·obtain⟨b,m,F,rfl,l1,l2,hm,hR⟩:=HR.out (by omega);obtain⟨F',hR'⟩:=HM.out.rows b 145 m F hR;have c1:=hR'.cell (i:=j*2) (by omega);have c2:=hR'.cell (i:=j*2+1) (by omega);have f1:=hR'.frozen (j*2);have f2:=hR'.frozen (j*2+1);have M1:=hid ((HM.out.set hR' (by omega) l1 l2 (j*2) (.int .i64 (k0+2*j))).set (hR'.set (j*2) _) (by omega) l1 l2 (j*2+1) (.int .i64 (k0+2*j+1)));have i1:(j:Int)<(n:Int):=(by omega);clear hR hR' HM;go_wp2;exact⟨⟨j+1,by omega,by go_num,by go_num,M1⟩,by simp[intOf];omega⟩
  ·go_wp2;go_ret;have e:j=n:=(by omega);subst e;exact⟨rfl,HM⟩
theorem Pn(c:Av)(lo hi:Nat)(k0:Int)(w:World)(hr:c.room lo hi w)(h0:0<=k0)(h1:k0<=1000000000000000):
 Calls prog 70 #[c.val,.int .i64 k0] w fun e w'=>e= .returned (.int .i64 (k0+c.n))/\Ib lo hi w w':=by
 obtain⟨a,n,cap,f⟩:=c;obtain⟨hn,hr⟩:=hr;simp only at hn hr;unfold Av.val;simp only;have HR:=hid hr;clear hr;go_enter func70,ntmps70
 go_wp2;go_loopw [1,5] (fun kk i wr=>∃j:Nat,j<=n/\i= .int .i64 j/\kk= .int .i64 (k0+j)/\Hid (Ib lo hi w wr)) (fun _ i _=>n-(intOf i).toNat)
 case atStart=>exact⟨0,Nat.zero_le _,rfl,by simp,hid (Ib.refl _ _ _)⟩
 case round=>
  obtain⟨j,hj,rfl,rfl,HM⟩:=hrel;by_cases hlt:j<n
  ·obtain⟨b,m,F,rfl,l1,l2,hm,hR⟩:=HR.out (by omega);obtain⟨F',hR'⟩:=HM.out.rows b 2 m F hR;have c1:=hR'.cell (i:=j) (by omega);have f1:=hR'.frozen j;have M1:=hid (HM.out.set hR' (by omega) l1 l2 j (.int .i64 (k0+j)));have i1:(j:Int)<(n:Int):=(by omega);clear hR hR' HM;go_wp2;exact⟨⟨j+1,by omega,by go_num,by go_num,M1⟩,by simp[intOf];omega⟩
  ·go_wp2;go_ret;have e:j=n:=(by omega);subst e;exact⟨rfl,HM⟩
theorem Nf(k:Int)(w:World)(h0:1<=k)(h1:k<=10000000000000000):
 Calls prog 71 #[.int .i64 k] w fun e w'=>∃s,e= .returned (.string s)/\Below w w w':=by
 obtain⟨n,rfl⟩:∃n:Nat,k=n:=⟨k.toNat,by omega⟩;exact(FR n w (by omega) (by omega)).mono fun _ _ ⟨he,hb⟩=>⟨_,he,hb⟩
theorem Vq(c:Ao)(lo hi:Nat)(k0:Int)(w:World)(hr:c.room lo hi w)(h0:1<=k0)(h1:k0<=1000000000000000):
 Calls prog 72 #[c.val,.int .i64 k0] w fun e w'=>e= .returned (.int .i64 (k0+c.n))/\Ib lo hi w w':=by
 obtain⟨a,n,cap,f⟩:=c;obtain⟨hn,hr⟩:=hr;simp only at hn hr;unfold Ao.val;simp only;have HR:=hid hr;clear hr;go_enter func72,ntmps72
 go_wp2;go_loopw [1,5] (fun kk i wr=>∃j:Nat,j<=n/\i= .int .i64 j/\kk= .int .i64 (k0+j)/\Hid (Ib lo hi w wr)) (fun _ i _=>n-(intOf i).toNat)
 case atStart=>exact⟨0,Nat.zero_le _,rfl,by simp,hid (Ib.refl _ _ _)⟩
 case round=>
  obtain⟨j,hj,rfl,rfl,HM⟩:=hrel;by_cases hlt:j<n
  ·obtain⟨b,m,F,rfl,l1,l2,hm,hR⟩:=HR.out (by omega);have i1:(j:Int)<(n:Int):=(by omega);go_wp2_with fail
   refine(Nf _ _ (by omega) (by omega)).mono ?_;rintro e w2 ⟨s,rfl,hb2⟩;have M2:=hid (HM.out.trans (Ib.of_below (lo:=lo) (hi:=hi) hb2));obtain⟨F',hR'⟩:=M2.out.rows b 9 m F hR;have c1:=hR'.cell (i:=j) (by omega);have f1:=hR'.frozen j;have M1:=hid (M2.out.set hR' (by omega) l1 l2 j (.string s));clear hR hR' HM M2 hb2;go_wp2;exact⟨⟨j+1,by omega,by go_num,by go_num,M1⟩,by simp[intOf];omega⟩
  ·go_wp2;go_ret;have e:j=n:=(by omega);subst e;exact⟨rfl,HM⟩
end Go.Proofs.YtmikapeeflcbfaaGreatDoor
