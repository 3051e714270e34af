import Derived.Test.YtmikapeeflcbfaaGreatDoorZ4
import Derived.Test.YtmikapeeflcbfaaGreatDoorZ0
import Derived.Maps.Own
import Derived.Maps.OwnSet
import Derived.Test.YtmikapeeflcbfaaGreatDoorZ2
import Derived.Test.YtmikapeeflcbfaaGreatDoorZ3
import Derived.Deep.RegionLaw
set_option maxRecDepth 100000
set_option maxHeartbeats 8000000
namespace Go.Proofs.YtmikapeeflcbfaaGreatDoor
open Go Go.RowKit Go.Deep Go.Proofs.Tryz
structure Wm(lo hi:Nat)(w w':World):Prop extends Mk lo hi w w' where
 big:∀b ty m F,ty≠145->ty≠2->ty≠9->ty≠86->w.rowIs b ty m F->w'.rowIs b ty m F
theorem Wm.refl(lo hi:Nat)(w:World):Wm lo hi w w:=⟨Mk.refl lo hi w,fun _ _ _ _ _ _ _ _ h=>h⟩
theorem Wm.thenL{lo hi:Nat}{a b c:World}(h:Wm lo hi a b)(k:Ib lo hi b c):Wm lo hi a c:=
 ⟨h.toMk.trans k.toMk,fun b ty m F h1 h2 h3 h4 hF=>k.big b ty m F h1 h2 h3 (h.big b ty m F h1 h2 h3 h4 hF)⟩
theorem Wm.setT{lo hi:Nat}{w wr:World}(h:Wm lo hi w wr){b m:Nat}{F:Nat->Value}(hb:wr.rowIs b 86 m F)(h1:lo<=b)(h2:b<hi)(i:Nat)(v:Value):Wm lo hi w (wr.setCell ⟨b,i,none⟩ v):=
 ⟨h.toMk.set h1 h2 i v,fun b' ty' m' F' n1 n2 n3 n4 hF=>by
   have hF':=h.big b' ty' m' F' n1 n2 n3 n4 hF;exact hF'.setOther (a:=⟨b,i,none⟩) (Du hF' hb n4) v⟩
def Tn(G:Nat->Value)(n:Nat)(T:Nat->Ac):Prop:=∀j,j<n->G (j*7+2)=(T j).c1.val/\G (j*7+4)=(T j).c2.val/\G (j*7+5)=(T j).own.val
theorem Tn.set{G:Nat->Value}{n:Nat}{T:Nat->Ac}(h:Tn G n T)(j r:Nat)(hr:r=0∨r=1∨r=3∨r=6)(v:Value):Tn (fun q=>if q=j*7+r then v else G q) n T:=fun i hi=>by
 obtain⟨h1,h2,h3⟩:=h i hi;refine⟨?_,?_,?_⟩
 ·dsimp only;rw[if_neg (by omega)];exact h1
 ·dsimp only;rw[if_neg (by omega)];exact h2
 ·dsimp only;rw[if_neg (by omega)];exact h3
def Ac.room(lo hi:Nat)(w:World)(t:Ac):Prop:=t.c1.room lo hi w/\t.c2.room lo hi w/\t.own.room lo hi w
theorem Ac.room.mk{lo hi:Nat}{w w':World}{t:Ac}(h:t.room lo hi w)(k:Mk lo hi w w'):t.room lo hi w':=⟨h.1.mk k,h.2.1.mk k,h.2.2.mk k⟩
def JC(lo hi:Nat)(w:World)(a:Option Addr)(n:Nat)(T:Nat->Ac):Prop:=
 n<=1048576/\(0<n->∃b G,a=some ⟨b,0,none⟩/\lo<=b/\b<hi/\w.rowIs b 86 (n*7) G/\Tn G n T)/\∀j,j<n->(T j).room lo hi w
theorem Ov(a:Option Addr)(n cap:Nat)(T:Nat->Ac)(lo hi:Nat)(k0:Int)(w:World)(hr:JC lo hi w a n T)(h0:1<=k0)(h1:k0<=100000000000000):
 Calls prog 30 #[.slice a n cap,.int .i64 k0] w fun e w'=>∃k1:Int,e= .returned (.int .i64 k1)/\k0<=k1/\k1<=k0+n*8388608/\Wm lo hi w w':=by
 obtain⟨hn,hr,hT⟩:=hr;have HR:=hid hr;have HT:=hid hT;clear hr hT;by_cases hz:n=0
 ·subst hz;go_enter func30,ntmps30
  go_wp2;go_loop [1,5] (fun kk i=>i= .int .i64 0/\kk= .int .i64 k0) (fun _ _=>0)
  case atStart=>exact⟨rfl,rfl⟩
  case round=>
   obtain⟨rfl,rfl⟩:=hrel;go_wp2;go_ret;exact⟨k0,rfl,by omega,by omega,Wm.refl _ _ _⟩
 obtain⟨b,G0,rfl,l1,l2,hR0,hS0⟩:=HR.out (by omega);have R0:=hid hR0;have S0:=hid hS0;clear hR0 hS0 HR;go_enter func30,ntmps30
 go_wp2;go_loopw [1,5] (fun kk i wr=>∃(j:Nat) (x:Int),j<=n/\i= .int .i64 j/\kk= .int .i64 x/\k0<=x/\x<=k0+j*8388608/\Hid (Wm lo hi w wr)/\Hid (∃G,wr.rowIs b 86 (n*7) G/\Tn G n T)) (fun _ i _=>n-(intOf i).toNat)
 case atStart=>exact⟨0,k0,Nat.zero_le _,rfl,rfl,by omega,by omega,hid (Wm.refl _ _ _),hid ⟨G0,R0,S0⟩⟩
 case round=>
  obtain⟨j,x,hj,rfl,rfl,x0,x1,HM,HG⟩:=hrel;by_cases hlt:j<n
  ·obtain⟨G,hR,hS⟩:=HG.out;obtain⟨s1,s2,s3⟩:=hS j hlt;have i1:(j:Int)<(n:Int):=(by omega);have z0:=hR.cell (i:=j*7) (by omega);have z1:=hR.cell (i:=j*7+1) (by omega);have z2:=hR.cell (i:=j*7+2) (by omega);rw[s1]at z2;have zf:=hR.frozen;have M1:=hid ((HM.out.setT hR l1 l2 (j*7) (.int .i64 x)).setT (hR.set (j*7) (.int .i64 x)) l1 l2 (j*7+1) (.int .i64 (x+1)));have R1:=hid ((hR.set (j*7) (.int .i64 x)).set (j*7+1) (.int .i64 (x+1)));have S1:=hid ((hS.set j 0 (by omega) (.int .i64 x)).set j 1 (by omega) (.int .i64 (x+1)));have C1:=hid (Gq (T j).c1 lo hi (x+1+1) _ ((HT j hlt).mk M1.out.toMk).1 (by omega) (by omega));have q1:=(HT j hlt).1.1;have q2:=(HT j hlt).2.1.1;have q3:=(HT j hlt).2.2.1;clear hR hS HM HG s1 s2 s3;go_wp2_with fail
   refine C1.out.mono ?_;rintro e w2 ⟨rfl,m2⟩;have M2:=hid (M1.out.thenL m2);obtain⟨G2,R2,S2⟩:∃G2,w2.rowIs b 86 (n*7) G2/\Tn G2 n T:=⟨_,m2.big _ _ _ _ (by decide) (by decide) (by decide) R1,S1⟩;clear z0 z1 z2 zf M1 R1 S1 C1 m2;generalize hy:x+1+1+2*((T j).c1.n:Int)=y at *;have y0:k0<=y/\y<=x+2+2097152:=(by omega);clear hy;obtain⟨s1,s2,s3⟩:=S2 j hlt;have z3:=R2.cell (i:=j*7+3) (by omega);have z4:=R2.cell (i:=j*7+4) (by omega);rw[s2]at z4;have zf:=R2.frozen;have M3:=hid (M2.out.setT R2 l1 l2 (j*7+3) (.int .i64 y));have R3:=hid (R2.set (j*7+3) (.int .i64 y));have S3:=hid (S2.set j 3 (by omega) (.int .i64 y));have C3:=hid (Gq (T j).c2 lo hi (y+1) _ ((HT j hlt).mk M3.out.toMk).2.1 (by omega) (by omega));clear R2 S2 M2 s1 s2 s3;go_wp2_with fail
   refine C3.out.mono ?_;rintro e w4 ⟨rfl,m4⟩;have M4:=hid (M3.out.thenL m4);obtain⟨G4,R4,S4⟩:∃G4,w4.rowIs b 86 (n*7) G4/\Tn G4 n T:=⟨_,m4.big _ _ _ _ (by decide) (by decide) (by decide) R3,S3⟩;clear z3 z4 zf M3 R3 S3 C3 m4;generalize hv:y+1+2*((T j).c2.n:Int)=v at *;have v0:k0<=v/\v<=x+3+4194304:=(by omega);clear hv;obtain⟨s1,s2,s3⟩:=S4 j hlt;have z5:=R4.cell (i:=j*7+5) (by omega);rw[s3]at z5;have C5:=hid (Pn (T j).own lo hi v _ ((HT j hlt).mk M4.out.toMk).2.2 (by omega) (by omega));clear s1 s2 s3;go_wp2_with fail
   refine C5.out.mono ?_;rintro e w6 ⟨rfl,m6⟩;have M6:=hid (M4.out.thenL m6);have R6:=m6.big _ _ _ _ (by decide) (by decide) (by decide) R4;clear z5 M4 R4 C5 m6;generalize hu:v+((T j).own.n:Int)=u at *;have u0:k0<=u/\u<=x+3+5242880:=(by omega);clear hu;have z6:=R6.cell (i:=j*7+6) (by omega);have zf:=R6.frozen;have M7:=hid (M6.out.setT R6 l1 l2 (j*7+6) (.int .i64 u));have R7:Hid (∃G,(w6.setCell ⟨b,j*7+6,none⟩ (.int .i64 u)).rowIs b 86 (n*7) G/\Tn G n T):=hid ⟨_,R6.set (j*7+6) (.int .i64 u),S4.set j 6 (by omega) (.int .i64 u)⟩;clear R6 S4 M6;go_wp2;exact⟨⟨j+1,u+1,by omega,by go_num,rfl,by omega,by omega,M7,R7⟩,by simp[intOf];omega⟩
  ·go_wp2;go_ret
   exact⟨x,rfl,x0,by have e:j=n:=by omega
                     subst e;exact x1,HM⟩
def RS(G:Nat->Value)(n:Nat)(T:Nat->Ab):Prop:=∀j,j<n->G (j*10+4)=(T j).c1.val/\G (j*10+6)=(T j).jA.val/\G (j*10+7)=(T j).own.val/\G (j*10+9)=(T j).c2.val
theorem RS.set{G:Nat->Value}{n:Nat}{T:Nat->Ab}(h:RS G n T)(j r:Nat)(hr:r=0∨r=1∨r=2∨r=3∨r=5∨r=8)(v:Value):RS (fun q=>if q=j*10+r then v else G q) n T:=fun i hi=>by
 obtain⟨h1,h2,h3,h4⟩:=h i hi;refine⟨?_,?_,?_,?_⟩
 ·dsimp only;rw[if_neg (by omega)];exact h1
 ·dsimp only;rw[if_neg (by omega)];exact h2
 ·dsimp only;rw[if_neg (by omega)];exact h3
 ·dsimp only;rw[if_neg (by omega)];exact h4
def Ab.room(lo hi:Nat)(w:World)(t:Ab):Prop:=t.c1.room lo hi w/\t.jA.room lo hi w/\t.own.room lo hi w/\t.c2.room lo hi w
theorem Ab.room.mk{lo hi:Nat}{w w':World}{t:Ab}(h:t.room lo hi w)(k:Mk lo hi w w'):t.room lo hi w':=⟨h.1.mk k,h.2.1.mk k,h.2.2.1.mk k,h.2.2.2.mk k⟩
def GJ(lo hi:Nat)(w:World)(a:Option Addr)(n:Nat)(T:Nat->Ab):Prop:=
 n<=1048576/\(0<n->∃b G,a=some ⟨b,0,none⟩/\lo<=b/\b<hi/\w.rowIs b 88 (n*10) G/\RS G n T)/\∀j,j<n->(T j).room lo hi w
theorem Oq(a:Option Addr)(n cap:Nat)(T:Nat->Ab)(lo hi:Nat)(k0:Int)(w:World)(hr:GJ lo hi w a n T)(h0:1<=k0)(h1:k0<=100000000000000):
 Calls prog 31 #[.slice a n cap,.int .i64 k0] w fun e w'=>∃k1:Int,e= .returned (.int .i64 k1)/\k0<=k1/\k1<=k0+n*8388608/\Mk lo hi w w':=by
 obtain⟨hn,hr,hT⟩:=hr;have HR:=hid hr;have HT:=hid hT;clear hr hT;by_cases hz:n=0
 ·subst hz;go_enter func31,ntmps31
  go_wp2;go_loop [1,5] (fun kk i=>i= .int .i64 0/\kk= .int .i64 k0) (fun _ _=>0)
  case atStart=>exact⟨rfl,rfl⟩
  case round=>
   obtain⟨rfl,rfl⟩:=hrel;go_wp2;go_ret;exact⟨k0,rfl,by omega,by omega,Mk.refl _ _ _⟩
 obtain⟨b,G0,rfl,l1,l2,hR0,hS0⟩:=HR.out (by omega);have R0:=hid hR0;have S0:=hid hS0;clear hR0 hS0 HR;go_enter func31,ntmps31
 go_wp2;go_loopw [1,5] (fun kk i wr=>∃(j:Nat) (x:Int),j<=n/\i= .int .i64 j/\kk= .int .i64 x/\k0<=x/\x<=k0+j*8388608/\Hid (Mk lo hi w wr)/\Hid (∃G,wr.rowIs b 88 (n*10) G/\RS G n T)) (fun _ i _=>n-(intOf i).toNat)
 case atStart=>exact⟨0,k0,Nat.zero_le _,rfl,rfl,by omega,by omega,hid (Mk.refl _ _ _),hid ⟨G0,R0,S0⟩⟩
 case round=>
  obtain⟨j,x,hj,rfl,rfl,x0,x1,HM,HG⟩:=hrel;by_cases hlt:j<n
  ·obtain⟨G,hR,hS⟩:=HG.out;obtain⟨s1,s2,s3,s4⟩:=hS j hlt;have i1:(j:Int)<(n:Int):=(by omega);have z0:=hR.cell (i:=j*10) (by omega);have z1:=hR.cell (i:=j*10+1) (by omega);have z2:=hR.cell (i:=j*10+2) (by omega);have z3:=hR.cell (i:=j*10+3) (by omega);have z4:=hR.cell (i:=j*10+4) (by omega);rw[s1]at z4;have zf:=hR.frozen;have M1:=hid ((((HM.out.set l1 l2 (j*10) (.int .i64 x)).set l1 l2 (j*10+1) (.int .i64 (x+1))).set l1 l2 (j*10+2) (.int .i64 (x+1+1))).set l1 l2 (j*10+3) (.int .i64 (x+1+1+1)));have R1:=hid ((((hR.set (j*10) (.int .i64 x)).set (j*10+1) (.int .i64 (x+1))).set (j*10+2) (.int .i64 (x+1+1))).set (j*10+3) (.int .i64 (x+1+1+1)));have S1:=hid ((((hS.set j 0 (by omega) (.int .i64 x)).set j 1 (by omega) (.int .i64 (x+1))).set j 2 (by omega) (.int .i64 (x+1+1))).set j 3 (by omega) (.int .i64 (x+1+1+1)));have C1:=hid (Gq (T j).c1 lo hi (x+1+1+1+1) _ ((HT j hlt).mk M1).1 (by omega) (by omega));have q1:=(HT j hlt).1.1;have q2:=(HT j hlt).2.1.1;have q3:=(HT j hlt).2.2.1.1;have q4:=(HT j hlt).2.2.2.1;clear hR hS HM HG s1 s2 s3 s4;go_wp2_with fail
   refine C1.out.mono ?_;rintro e w2 ⟨rfl,m2⟩;have M2:=hid (M1.out.trans m2.toMk);obtain⟨G2,R2,S2⟩:∃G2,w2.rowIs b 88 (n*10) G2/\RS G2 n T:=⟨_,m2.big _ _ _ _ (by decide) (by decide) (by decide) R1,S1⟩;clear z0 z1 z2 z3 z4 zf M1 R1 S1 C1 m2;generalize hy:x+1+1+1+1+2*((T j).c1.n:Int)=y at *;have y0:k0<=y/\y<=x+4+2097152:=(by omega);clear hy;have R2':=hid R2;have S2':=hid S2;clear R2 S2;go_wp2_with fail
   refine(Nf y w2 (by omega) (by omega)).mono ?_;rintro e w3 ⟨st,rfl,hb3⟩;have m3:=Ib.of_below (lo:=lo) (hi:=hi) hb3;have M3:=hid (M2.out.trans m3.toMk);obtain⟨G3,R3,S3⟩:∃G3,w3.rowIs b 88 (n*10) G3/\RS G3 n T:=⟨_,m3.big _ _ _ _ (by decide) (by decide) (by decide) R2',S2'⟩;clear R2' S2' M2 m3 hb3;obtain⟨s1,s2,s3,s4⟩:=S3 j hlt;have z5:=R3.cell (i:=j*10+5) (by omega);have z6:=R3.cell (i:=j*10+6) (by omega);rw[s2]at z6;have zf:=R3.frozen;have M4:=hid (M3.out.set l1 l2 (j*10+5) (.string st));have R4:=hid (R3.set (j*10+5) (.string st));have S4:=hid (S3.set j 5 (by omega) (.string st));have C4:=hid (Vq (T j).jA lo hi (y+1) _ ((HT j hlt).mk M4).2.1 (by omega) (by omega));clear R3 S3 M3 s1 s2 s3 s4;go_wp2_with fail
   refine C4.out.mono ?_;rintro e w5 ⟨rfl,m5⟩;have M5:=hid (M4.out.trans m5.toMk);obtain⟨G5,R5,S5⟩:∃G5,w5.rowIs b 88 (n*10) G5/\RS G5 n T:=⟨_,m5.big _ _ _ _ (by decide) (by decide) (by decide) R4,S4⟩;clear z5 z6 zf M4 R4 S4 C4 m5;generalize hv:y+1+((T j).jA.n:Int)=v at *;have v0:k0<=v/\v<=x+5+3145728:=(by omega);clear hv;obtain⟨s1,s2,s3,s4⟩:=S5 j hlt;have z7:=R5.cell (i:=j*10+7) (by omega);rw[s3]at z7;have C6:=hid (Pn (T j).own lo hi v _ ((HT j hlt).mk M5).2.2.1 (by omega) (by omega));clear s1 s2 s3 s4;go_wp2_with fail
   refine C6.out.mono ?_;rintro e w6 ⟨rfl,m6⟩;have M6:=hid (M5.out.trans m6.toMk);have R6:=m6.big _ _ _ _ (by decide) (by decide) (by decide) R5;clear z7 M5 R5 C6 m6;generalize hu:v+((T j).own.n:Int)=u at *;have u0:k0<=u/\u<=x+5+4194304:=(by omega);clear hu;obtain⟨s1,s2,s3,s4⟩:=S5 j hlt;have z8:=R6.cell (i:=j*10+8) (by omega);have z9:=R6.cell (i:=j*10+9) (by omega);rw[s4]at z9;have zf:=R6.frozen;have M7:=hid (M6.out.set l1 l2 (j*10+8) (.int .i64 u));have R7:=hid (R6.set (j*10+8) (.int .i64 u));have S7:=hid (S5.set j 8 (by omega) (.int .i64 u));have C7:=hid (Gq (T j).c2 lo hi (u+1) _ ((HT j hlt).mk M7).2.2.2 (by omega) (by omega));clear R6 S5 M6 s1 s2 s3 s4;go_wp2_with fail
   refine C7.out.mono ?_;rintro e w8 ⟨rfl,m8⟩;have M8:=hid (M7.out.trans m8.toMk);have R8:Hid (∃G,w8.rowIs b 88 (n*10) G/\RS G n T):=hid ⟨_,m8.big _ _ _ _ (by decide) (by decide) (by decide) R7,S7⟩;clear z8 z9 zf M7 R7 S7 C7 m8;generalize ht:u+1+2*((T j).c2.n:Int)=t at *;have t0:k0<=t/\t<=x+6+6291456:=(by omega);clear ht;go_wp2;exact⟨⟨j+1,t,by omega,by go_num,rfl,by omega,by omega,M8,R8⟩,by simp[intOf];omega⟩
  ·go_wp2;go_ret
   exact⟨x,rfl,x0,by have e:j=n:=by omega
                     subst e;exact x1,HM⟩
def Ar.room(lo hi:Nat)(w:World)(k:Ar):Prop:=JC lo hi w k.ta k.tn k.T/\GJ lo hi w k.oa k.on k.O
theorem JC.mkL{lo hi:Nat}{w w':World}{a:Option Addr}{n:Nat}{T:Nat->Ac}(h:JC lo hi w a n T)(k:Ib lo hi w w'):JC lo hi w' a n T:=
 ⟨h.1,fun hn=>by
   obtain⟨b,G,e,h1,h2,h3,h4⟩:=h.2.1 hn;exact⟨b,G,e,h1,h2,k.big _ _ _ _ (by decide) (by decide) (by decide) h3,h4⟩,fun j hj=>(h.2.2 j hj).mk k.toMk⟩
theorem GJ.mkL{lo hi:Nat}{w w':World}{a:Option Addr}{n:Nat}{T:Nat->Ab}(h:GJ lo hi w a n T)(k:Ib lo hi w w'):GJ lo hi w' a n T:=
 ⟨h.1,fun hn=>by
   obtain⟨b,G,e,h1,h2,h3,h4⟩:=h.2.1 hn;exact⟨b,G,e,h1,h2,k.big _ _ _ _ (by decide) (by decide) (by decide) h3,h4⟩,fun j hj=>(h.2.2 j hj).mk k.toMk⟩
theorem GJ.mkT{lo hi:Nat}{w w':World}{a:Option Addr}{n:Nat}{T:Nat->Ab}(h:GJ lo hi w a n T)(k:Wm lo hi w w'):GJ lo hi w' a n T:=
 ⟨h.1,fun hn=>by
   obtain⟨b,G,e,h1,h2,h3,h4⟩:=h.2.1 hn;exact⟨b,G,e,h1,h2,k.big _ _ _ _ (by decide) (by decide) (by decide) (by decide) h3,h4⟩,fun j hj=>(h.2.2 j hj).mk k.toMk⟩
theorem Al.row.room{B:Nat}{w:World}{c:Al}(h:c.row w)(hn:c.n<=1048576)(hs:∀p,c.a=some p->B<=p.block):c.room B w w:=⟨hn,fun _=>by
 obtain⟨b,e,hr⟩:=h;exact⟨b,_,_,e,hs _ e,hr.lt,Nat.le_refl _,hr⟩⟩
theorem Av.row.room{B:Nat}{w:World}{c:Av}(h:c.row w)(hn:c.n<=1048576)(hs:∀p,c.a=some p->B<=p.block):c.room B w w:=⟨hn,fun _=>by
 obtain⟨b,e,hr⟩:=h;exact⟨b,_,_,e,hs _ e,hr.lt,Nat.le_refl _,hr⟩⟩
theorem Ao.row.room{B:Nat}{w:World}{c:Ao}(h:c.row w)(hn:c.n<=1048576)(hs:∀p,c.a=some p->B<=p.block):c.room B w w:=⟨hn,fun _=>by
 obtain⟨b,e,hr⟩:=h;exact⟨b,_,_,e,hs _ e,hr.lt,Nat.le_refl _,hr⟩⟩
theorem Ar.row.room{B:Nat}{w:World}{k:Ar}(h:k.row w)(hs:k.small)(hn:k.since B):k.room B w w:=by
 obtain⟨⟨tb,G,e1,hG,hT⟩,⟨ob,G',e2,hG',hO⟩⟩:=h;obtain⟨n1,n2,n3,n4⟩:=hn;obtain⟨⟨s1,s2⟩,⟨s3,s4⟩⟩:=hs;refine⟨⟨s1,fun _=>⟨tb,G,e1,n1 _ e1,hG.lt,hG,fun j hj=>?_⟩,fun j hj=>?_⟩,⟨s3,fun _=>⟨ob,G',e2,n3 _ e2,hG'.lt,hG',fun j hj=>?_⟩,fun j hj=>?_⟩⟩
 ·have g:=(hT j hj).1;exact⟨g.g2,g.g4,g.g5⟩
 ·obtain⟨_,r1,r2,r3⟩:=hT j hj;obtain⟨z1,z2,z3⟩:=s2 j hj;obtain⟨y1,y2,y3⟩:=n2 j hj;exact⟨r1.room z1 y1,r2.room z2 y2,r3.room z3 y3⟩
 ·have g:=(hO j hj).1;exact⟨g.g4,g.g6,g.g7,g.g9⟩
 ·obtain⟨_,r1,r2,r3,r4⟩:=hO j hj;obtain⟨z1,_,z2,z3,z4⟩:=s4 j hj;obtain⟨y1,y2,y3,y4⟩:=n4 j hj;exact⟨r1.room z1 y1,r2.room z2.1 y2,r3.room z3 y3,r4.room z4 y4⟩
open Go.Maps
theorem GP:Keyed prog 2:=int_keyed underlying2
theorem Zg(w:World):(zeroValue 2).run prog w= .ok (.int .i64 0) w:=by kernel_rfl
def look(f g:Nat->Int):Nat->Int->Option Int
 |0,_=>none
 |k+1,x=>if f k=x then some (g k)else look f g k x
def Bh(w:World)(b n:Nat)(m:Int->Option Int):Prop:=
 ∃D:DataW Unit,w.ownsMap prog 2 (plainElem prog 2) b n D/\IsMap D/\
  ∀x,Maps.has D (.int .i64 x)=(m x).isSome/\∀v,m x=some v->D.atKey (.int .i64 x) (.lit (.int .i64 0))= .lit (.int .i64 v)
theorem Bh.made(w:World):Bh (w.alloc (.map #[] 0)) w 0 (fun _=>none):=
 ⟨.map [],World.ownsMap_made _ _ _ _,isMap_empty,fun x=>⟨rfl,fun v h=>by cases h⟩⟩
theorem Bh.of_block{w w':World}{b n:Nat}{m:Int->Option Int}(h:Bh w b n m)(e:w'.heap[b]? =w.heap[b]?):Bh w' b n m:=by
 obtain⟨D,⟨es,clock,hb,F,hs,hD⟩,r⟩:=h;exact⟨D,⟨es,clock,e.trans hb,F,hs,hD⟩,r⟩
theorem Bh.setCell{w:World}{b n:Nat}{m:Int->Option Int}(h:Bh w b n m){a:Addr}(ha:b≠a.block)(v:Value):Bh (w.setCell a v) b n m:=h.of_block (blk_setCell_other _ _ _ _ ha)
theorem Bh.lt{w:World}{b n:Nat}{m:Int->Option Int}(h:Bh w b n m):b<w.heap.size:=by
 obtain⟨D,h1,_⟩:=h;exact h1.lt
theorem Bh.alloc{w:World}{b n:Nat}{m:Int->Option Int}(h:Bh w b n m)(o:Obj):Bh (w.alloc o) b n m:=by
 obtain⟨D,h1,h2,h3⟩:=h;exact⟨D,h1.alloc o,h2,h3⟩
def jB(m:Int->Option Int)(k v:Int)(x:Int):Option Int:=if k=x then some v else m x
theorem Bh.put{D:DataW Unit}{m:Int->Option Int}{k v:Int}(h2:IsMap D)
 (h3:∀x,Maps.has D (.int .i64 x)=(m x).isSome/\∀v,m x=some v->D.atKey (.int .i64 x) (.lit (.int .i64 0))= .lit (.int .i64 v)):
 IsMap (D.put (.int .i64 k) (.lit (.int .i64 v)))/\
 ∀x,Maps.has (D.put (.int .i64 k) (.lit (.int .i64 v))) (.int .i64 x)=(jB m k v x).isSome/\∀u,jB m k v x=some u->(D.put (.int .i64 k) (.lit (.int .i64 v))).atKey (.int .i64 x) (.lit (.int .i64 0))= .lit (.int .i64 u):=by
 refine⟨h2.put _ _,fun x=>?_⟩;by_cases e:k=x
 ·subst e;refine⟨?_,fun u hu=>?_⟩
  ·rw[has_put_same h2 (by trivial)];simp[jB]
  ·simp[jB]at hu;subst hu;exact atKey_put_same h2 (by trivial) _ _
 ·have hne:(Lit.int .i64 x)≠(Lit.int .i64 k):=by simp;exact fun h=>e h.symm
  refine⟨?_,fun u hu=>?_⟩
  ·rw[has_put_other hne];simp[jB,e];exact(h3 x).1
  ·simp[jB,e]at hu;rw[atKey_put_other hne];exact(h3 x).2 u hu
theorem Np(f g:Nat->Int)(k:Nat):jB (look f g k) (f k) (g k)=look f g (k+1):=by
 funext x;rfl
theorem Hp{w w':World}{b:Nat}(hg:w.grownBy w' (some b)){k o:Nat}(hk:k<w.heap.size)(hne:k≠b):w'.cell? ⟨k,o,none⟩=w.cell? ⟨k,o,none⟩:=
 World.cell?_of_block (w:=w) (hg.block k hk (fun e=>hne (by simpa using e)))
theorem J8{w w':World}{b:Nat}(hg:w.grownBy w' (some b)){k o:Nat}(hk:k<w.heap.size)(hne:k≠b):w'.frozen? ⟨k,o,none⟩=w.frozen? ⟨k,o,none⟩:=
 World.frozen?_of_block (w:=w) (hg.block k hk (fun e=>hne (by simpa using e)))
theorem Bh.below{w w':World}{b n:Nat}{m:Int->Option Int}(h:Bh w b n m)(hb:Below w w w'):Bh w' b n m:=h.of_block (hb.block b h.lt)
theorem Hh{x:Int}(h0: -9223372036854775808<=x)(h1:x<=9223372036854775807):(Lit.int .i64 x).wf=true:=WalkArith.wf_i64 ⟨h0,h1⟩
theorem Pu{x:Int}(h:(Lit.int .i64 x).wf=true): -9223372036854775808<=x/\x<=9223372036854775807:=by
 simp only[Lit.wf,Bool.and_eq_true,decide_eq_true_eq]at h;have e1:IntKind.i64.min= -9223372036854775808:=rfl;have e2:IntKind.i64.max=9223372036854775807:=rfl;omega
theorem Bh.look{w:World}{b n:Nat}{m:Int->Option Int}{x:Int}(h:Bh w b n m)(hx:(Lit.int .i64 x).wf=true):
 (Instr.lookup 184 (.map (some b)) (.int .i64 x) false).run prog w= .ok (.int .i64 ((m x).getD 0)) w:=by
 obtain⟨D,hown,hD,hall⟩:=h;obtain⟨c,hrun,hat,_⟩:=hown.lookup_int GP underlying184 underlying2 (Zg _) (keyOf_int_mk underlying2 hx);obtain⟨h1,h2⟩:=hall x;rw[hrun];cases hm:m x with
 |none=>
  have:Maps.has D (.int .i64 x)=false:=by rw[h1,hm];rfl
  rw[atKey_of_not_has this]at hat;simp at hat;simp[<-hat]
 |some v=>
  have:=(h2 v hm).symm.trans hat;simp at this;simp[this]
def madeOf(n:Nat)(T:Nat->Ac)(x:Int):Int:=(look (fun i=>(T i).id) (fun i=>(T i).made) n x).getD 0
def Ex(n:Nat)(T:Nat->Ac)(id:Int):Bool:=decide (1<=id%1000)&&decide (id%1000<=madeOf n T (id/1000))
def FP(n:Nat)(T:Nat->Ac)(m:Nat)(O:Nat->Ab):Bool:=(List.range (m-1)).all (fun i=>Ex n T (O (i+1)).id)
theorem CF{n:Nat}{T:Nat->Ac}(h:Bq n T=true):1<=n/\n<=9/\∀i,i<n->DK T i=true:=by
 simp only[Bq,Bool.and_eq_true,decide_eq_true_eq]at h;exact⟨h.1.1,h.1.2,Fx h.2⟩
theorem Mt{T:Nat->Ac}{i:Nat}(h:DK T i=true):CS (T i)=true:=by
 simp only[DK,Bool.and_eq_true]at h;exact h.1
theorem Jn{t:Ac}(h:CS t=true):0<=t.made/\t.made<=30:=by
 unfold CS Df at h;simp only[Bool.and_eq_true]at h;exact DL.1 (by simp_all)
theorem Cc{n:Nat}{O:Nat->Ab}(h:BQ n O=true):1<=n/\n<=271/\(∀i,i<n->Fi O i=true)/\E7 (O 0)=true:=by
 simp only[BQ,Bool.and_eq_true,decide_eq_true_eq]at h;exact⟨h.1.1.1,h.1.1.2,Fx h.1.2,h.2⟩
theorem Bt{n:Nat}{O:Nat->Ab}(h:BQ n O=true):CM (fun i=>(O i).id) n:=by
 obtain⟨_,_,ha,_⟩:=Cc h;intro i j hij;induction j with
 |zero=>omega
 |succ j ih=>
  intro hj;have h1:=ha (j+1) hj;simp[Fi]at h1;by_cases e:i=j
  ·subst e;exact h1.2
  ·have:=ih (by omega) (by omega);simp only at this ⊢;omega
theorem Cm{n:Nat}{O:Nat->Ab}(h:BQ n O=true):(O 0).id=1/\(O 0).kind=3/\(O 0).up=0:=by
 obtain⟨_,_,_,hr⟩:=Cc h;simp only[E7,Bool.and_eq_true,beq_iff_eq]at hr;exact⟨hr.1.1,hr.1.2,hr.2⟩
theorem Ea{n:Nat}{O:Nat->Ab}(h:BQ n O=true):∀i,i<n->1<=(O i).id:=by
 intro i hi;have hr:=(Cm h).1;by_cases e:i=0
 ·subst e;omega
 ·have:=Bt h 0 i (by omega) hi;simp only at this;omega
theorem OJ(k:Ar)(w:World)(hk:k.at w)(hcap:k.on<=k.ok)(h1:Bq k.tn k.T=true)(h2:BQ k.on k.O=true)(hw:∀i,i<k.on->(Lit.int .i64 (k.O i).id).wf=true):
 Calls prog 100 #[k.val] w fun e w'=>e= .returned (.bool (FP k.tn k.T k.on k.O))/\Below w w w':=by
 have hmm:=@run_makeMap prog;obtain⟨ta,tn,tk,T,oa,on,ok,O⟩:=k;obtain⟨_,_,hT,hO⟩:=hk;unfold Ar.val;simp only at h1 h2 hw hT hO hcap ⊢;obtain⟨tn1,tn9,tall⟩:=CF h1;obtain⟨on1,on2,_,_⟩:=Cc h2;have HT:=hid hT;have HO:=hid hO;obtain⟨tb,toff,rfl,_,_⟩:=hT (by omega);obtain⟨ob,ooff,rfl,_,_⟩:=hO (by omega);have HP:=hid (Ea h2);have HW:=hid hw;have HA:=hid tall;clear h1 h2 hw tall hT hO;have n2:Na #[.slice (some ⟨tb,toff,none⟩) tn tk,.slice (some ⟨ob,ooff,none⟩) on ok]:=⟨⟩;have hb0:=(Below.refl _ w).alloc (Nat.le_refl _) (.cells n2 36);have A0:=Ah.new w (.cells n2 36);have hb1:=Ae hb0 ((Below.refl _ _).alloc (Nat.le_refl _) (.map #[] 0));have A1:=A0.alloc (.map #[] 0);have M0:=Bh.made (w.alloc (.cells n2 36));go_enter func100,ntmps100
 go_wp2;generalize hW:((w.alloc (Obj.cells n2 36)).alloc (Obj.map #[] 0))=W at *;have M1:Bh W (w.heap.size+1) 0 (look (fun i=>(T i).id) (fun i=>(T i).made) 0):=by simpa[look]using M0
 clear M0 hb0 A0 hmm hW;go_loopw [13] (fun i wr=>∃j:Nat,j<=tn/\i= .int .i64 j/\Bh wr (w.heap.size+1) j (look (fun i=>(T i).id) (fun i=>(T i).made) j)/\Ah wr w (.cells n2 36)/\Below w w wr) (fun i _=>tn-(intOf i).toNat)
 case atStart=>exact⟨0,Nat.zero_le _,rfl,M1,A1,hb1⟩
 case round=>
  obtain⟨j,hj,rfl,HM,A,hB⟩:=hrel;clear M1 A1 hb1;by_cases hlt:j<tn
  ·obtain⟨_,_,ea,hlt0,hcc⟩:=HT.out.below hB (by omega);cases ea;obtain⟨⟨q0,q1,q2,q3,q4,q5,q6⟩,ht⟩:=hcc j hlt;have i1:(j:Int)<(tn:Int):=(by omega);have t1:=Mt (HA j hlt);have hkey:keyOf prog 2 (.int .i64 (T j).id)=some (.int .i64 (T j).id):=keyOf_int_mk underlying2 (Hh (by have:=J6 t1;omega) (by have:=J6 t1;omega));have W2:Hid ((Lit.int .i64 (T j).made).wf=true):=Hh (by have:=Jn t1;omega) (by have:=Jn t1;omega);have hlm:=HM.lt;obtain⟨D,hown,hD,hm⟩:=HM;simp only[Al.val,Av.val]at q2 q4 q5;clear hcc ht t1;go_wp2_with(at_mapUpdate;refine wpList_mapUpdate_own _ rfl _ _ _ 184 rfl 2 2 GP underlying184 _ (w.heap.size+1) j _ rfl (hown.alloc _) (by unfold maxLen;omega) _ _ _ rfl rfl hkey _ [] (plainElem_int underlying2 W2) ?_;intro w1 hown1 hgrow1)
   have hm1:=Bh.put (k:=(T j).id) (v:=(T j).made) hD hm;rw[Np (fun i=>(T i).id) (fun i=>(T i).made) j]at hm1;have A3:=A.alloc (.cells #[.int .i64 (T j).id,.int .i64 (T j).b1,.slice (T j).c1.a (T j).c1.n (T j).c1.k,.int .i64 (T j).b2,.slice (T j).c2.a (T j).c2.n (T j).c2.k,.slice (T j).own.a (T j).own.n (T j).own.k,.int .i64 (T j).made] 86);refine⟨⟨j+1,by omega,by go_num,⟨_,hown1,hm1.1,hm1.2⟩,?_,?_⟩,by simp[intOf];omega⟩
   ·exact(hgrow1.block _ A3.lt (by simp)).trans A3
   ·exact(hB.alloc hB.size _).grown hgrow1 (by simp;omega) (fun i hi=>by cases hi;omega)
  ·have e:j=tn:=(by omega);subst e;have i1:¬(j:Int)<(j:Int):=(by omega);obtain⟨y0,y1⟩:=A.two;have c1:(on:Int)<=(ok:Int):=(by omega);have c2:(1:Int)<=(on:Int):=(by omega);clear HT HA y0;by_cases hok:ok=1
   ·obtain rfl:on=1:=by omega
    subst hok;go_wp2;go_loopw [27] (fun i wr'=>i= .int .i64 0/\Below w w wr') (fun i _=>0)
    case atStart=>exact⟨rfl,hB⟩
    case round=>
     obtain⟨rfl,hB'⟩:=hrel;go_wp2;go_ret;exact⟨Ag (by simp[FP]),hB'⟩
   ·go_wp2;go_loopw [27] (fun i wr'=>∃q:Nat,q<=on-1/\i= .int .i64 q/\Hid (∀p,p<q->Ex j T (O (p+1)).id=true)/\Bh wr' (w.heap.size+1) j (look (fun i=>(T i).id) (fun i=>(T i).made) j)/\Below w w wr') (fun i _=>on-1-(intOf i).toNat)
    case atStart=>exact⟨0,Nat.zero_le _,rfl,hid (fun p hp=>by omega),HM,hB⟩
    case round=>
    obtain⟨q,hq,rfl,HN,HM',hB'⟩:=hrel;clear y1 A hB HM;by_cases hlt2:q<on-1
    ·obtain⟨_,_,ea,hlt0,hcc⟩:=HO.out.below hB' (by omega);cases ea;obtain⟨⟨q0,q1,q2,q3,q4,q5,q6,q7,q8,q9⟩,ht⟩:=hcc (q+1) (by omega);have ei:ooff+(q+1)*10=ooff+10+q*10:=(by omega);rw[ei]at q0 q1 q2 q3 q4 q5 q6 q7 q8 q9;have i2:(q:Int)<((on-1:Nat):Int):=(by omega);have hp:=HP.out (q+1) (by omega);simp only[Al.val,Av.val,Ao.val]at q4 q6 q7 q9;have hww:=HW.out (q+1) (by omega);have hwb:=Pu hww;have ed:wrap64 ((O (q+1)).id.tdiv 1000)=(O (q+1)).id/1000:=by
      rw[Int.tdiv_eq_ediv_of_nonneg (by omega)];unfold wrap64;omega
     have n1:No (.cells #[.int .i64 (O (q+1)).id,.int .i64 (O (q+1)).kind,.int .i64 (O (q+1)).up,.int .i64 (O (q+1)).b1,.slice (O (q+1)).c1.a (O (q+1)).c1.n (O (q+1)).c1.k,.string (O (q+1)).data,.slice (O (q+1)).jA.a (O (q+1)).jA.n (O (q+1)).jA.k,.slice (O (q+1)).own.a (O (q+1)).own.n (O (q+1)).own.k,.int .i64 (O (q+1)).b2,.slice (O (q+1)).c2.a (O (q+1)).c2.n (O (q+1)).c2.k] 88):=⟨⟩;have LK:=(HM'.alloc n1).look (x:=(O (q+1)).id/1000) (Hh (by omega) (by omega));have em:((look (fun i=>(T i).id) (fun i=>(T i).made) j ((O (q+1)).id/1000)).getD 0)=madeOf j T ((O (q+1)).id/1000):=rfl;rw[em]at LK;have HMa:=HM'.alloc n1;clear hcc ht ei em hww hwb;go_wp2
     ·go_ret;have t1:madeOf j T ((O (q+1)).id/1000)<(O (q+1)).id%1000:=(by omega);refine⟨Ag ?_,hB'.alloc hB'.size _⟩;rw[FP,Gh hlt2];have:decide ((O (q+1)).id%1000<=madeOf j T ((O (q+1)).id/1000))=false:=(by simp;omega);simp[Ex,this]
     ·have t1:(O (q+1)).id%1000<=madeOf j T ((O (q+1)).id/1000):=(by omega);have t0:1<=(O (q+1)).id%1000:=(by assumption);refine⟨⟨q+1,by omega,by go_num,hid (fun p hp=>?_),HMa,hB'.alloc hB'.size _⟩,by simp[intOf];omega⟩;by_cases e:p=q
      ·subst e;simp[Ex,t0,t1]
      ·exact HN.out p (by omega)
     ·go_ret;have t1:(O (q+1)).id%1000<1:=(by assumption);refine⟨Ag ?_,hB'.alloc hB'.size _⟩;rw[FP,Gh hlt2];have:decide (1<=(O (q+1)).id%1000)=false:=(by simp;omega);simp[Ex,this]
    ·have e:q=on-1:=(by omega);subst e;go_wp2;go_ret;exact⟨Ag (by rw[FP,DV HN.out]),hB'⟩
def QD(v:Value):Option (DataW Unit×List MemPlace):=
 match v with
 | .pointer none=>some (.lit (.int .i64 (-1)),[])
 | .pointer (some ⟨b,0,none⟩)=>some (.lit (.int .i64 (b:Int)),[])
 |_=>none
theorem KT{v:Value}{c:Int}{ps:List MemPlace}(h:QD v=some (.lit (.int .i64 c),ps)):v= .pointer (if c= -1 then none else some ⟨c.toNat,0,none⟩):=by
 unfold QD at h;split at h
 ·simp only[Option.some.injEq,Prod.mk.injEq,DataW.lit.injEq,Lit.int.injEq]at h;rw[if_pos h.1.2.symm]
 ·simp only[Option.some.injEq,Prod.mk.injEq,DataW.lit.injEq,Lit.int.injEq]at h;obtain⟨⟨_,e⟩,_⟩:=h;rw[if_neg (by omega),<-e];simp
 ·cases h
def FU(w:World)(b n:Nat)(m:Int->Option Nat):Prop:=
 ∃D:DataW Unit,w.ownsMap prog 2 QD b n D/\IsMap D/\
  ∀x,Maps.has D (.int .i64 x)=(m x).isSome/\∀v,m x=some v->D.atKey (.int .i64 x) (.lit (.int .i64 (-1)))= .lit (.int .i64 (v:Int))
theorem FU.made(w:World):FU (w.alloc (.map #[] 0)) w 0 (fun _=>none):=
 ⟨.map [],World.ownsMap_made _ _ _ _,isMap_empty,fun x=>⟨rfl,fun v h=>by cases h⟩⟩
theorem FU.of_block{w w':World}{b n:Nat}{m:Int->Option Nat}(h:FU w b n m)(e:w'.heap[b]? =w.heap[b]?):FU w' b n m:=by
 obtain⟨D,⟨es,clock,hb,F,hs,hD⟩,r⟩:=h;exact⟨D,⟨es,clock,e.trans hb,F,hs,hD⟩,r⟩
theorem FU.lt{w:World}{b n:Nat}{m:Int->Option Nat}(h:FU w b n m):b<w.heap.size:=by
 obtain⟨D,h1,_⟩:=h;exact h1.lt
theorem FU.below{w w':World}{b n:Nat}{m:Int->Option Nat}(h:FU w b n m)(hb:Below w w w'):FU w' b n m:=h.of_block (hb.block b h.lt)
theorem FU.isMap{w:World}{b n:Nat}{m:Int->Option Nat}(h:FU w b n m):∃es clock,w.heap[b]? =some (.map es clock):=by
 obtain⟨D,⟨es,clock,hb,_⟩,_⟩:=h;exact⟨es,clock,hb⟩
def Ia(m:Int->Option Nat)(k:Int)(v:Nat)(x:Int):Option Nat:=if k=x then some v else m x
theorem FU.put{D:DataW Unit}{m:Int->Option Nat}{k:Int}{v:Nat}(h2:IsMap D)
 (h3:∀x,Maps.has D (.int .i64 x)=(m x).isSome/\∀v,m x=some v->D.atKey (.int .i64 x) (.lit (.int .i64 (-1)))= .lit (.int .i64 (v:Int))):
 IsMap (D.put (.int .i64 k) (.lit (.int .i64 (v:Int))))/\
 ∀x,Maps.has (D.put (.int .i64 k) (.lit (.int .i64 (v:Int)))) (.int .i64 x)=(Ia m k v x).isSome/\∀u,Ia m k v x=some u->(D.put (.int .i64 k) (.lit (.int .i64 (v:Int)))).atKey (.int .i64 x) (.lit (.int .i64 (-1)))= .lit (.int .i64 (u:Int)):=by
 refine⟨h2.put _ _,fun x=>?_⟩;by_cases e:k=x
 ·subst e;refine⟨?_,fun u hu=>?_⟩
  ·rw[has_put_same h2 (by trivial)];simp[Ia]
  ·simp[Ia]at hu;subst hu;exact atKey_put_same h2 (by trivial) _ _
 ·have hne:(Lit.int .i64 x)≠(Lit.int .i64 k):=by simp;exact fun h=>e h.symm
  refine⟨?_,fun u hu=>?_⟩
  ·rw[has_put_other hne];simp[Ia,e];exact(h3 x).1
  ·simp[Ia,e]at hu;rw[atKey_put_other hne];exact(h3 x).2 u hu
theorem ag(w:World):(zeroValue 158).run prog w= .ok (.pointer none) w:=by kernel_rfl
theorem FU.look{w:World}{b n:Nat}{m:Int->Option Nat}{x:Int}(h:FU w b n m)(hx:(Lit.int .i64 x).wf=true):
 (Instr.lookup 100 (.map (some b)) (.int .i64 x) false).run prog w= .ok (.pointer ((m x).map fun p=>⟨p,0,none⟩)) w:=by
 obtain⟨D,hown,hD,hall⟩:=h;obtain⟨v,ps,hrun,hv⟩:=hown.lookup GP underlying100 (ag w) (zd:= .lit (.int .i64 (-1))) (zp:=[]) rfl (keyOf_int_mk underlying2 hx);obtain⟨h1,h2⟩:=hall x;rw[hrun];cases hm:m x with
 |none=>
  have:Maps.has D (.int .i64 x)=false:=by rw[h1,hm];rfl
  rw[atKey_of_not_has this]at hv;rw[KT hv];rfl
 |some p=>
  rw[h2 p hm]at hv;rw[KT hv,if_neg (by omega)];simp
theorem CM.less{ids:Nat->Int}{n m:Nat}(h:CM ids n)(hm:m<=n):CM ids m:=fun i j hij hj=>h i j hij (by omega)
theorem Tx{ids:Nat->Int}{k:Nat}(h:CM ids (k+1))(x:Int):Bd ids (k+1) x=if ids k=x then some k else Bd ids k x:=by
 split
 ·rename_i e;subst e;exact De h (Nat.lt_succ_self k)
 ·rename_i e;cases e1:Bd ids k x with
  |none=>
   cases e2:Bd ids (k+1) x with
   |none=>rfl
   |some j=>
    obtain⟨j1,j2⟩:=AE e2;by_cases ej:j=k
    ·subst ej;exact absurd j2 e
    ·exact absurd j2 (Ho e1 j (by omega))
  |some j=>
   obtain⟨j1,j2⟩:=AE e1;rw[<-j2];exact De h (by omega)
structure Dj(w:World)(B c n:Nat)(ids:Nat->Int)(ob off:Nat)(nb:Nat->Nat)(kv:Nat->Value)(K:Nat->List Int):Prop where
 map:FU w c n (fun x=>(Bd ids n x).map nb)
 blk:∀i,i<n->Ah w (nb i) (.cells #[.pointer (some ⟨ob,off+i*10,none⟩),kv i] 161)
 inj:∀i j,i<n->j<n->nb i=nb j->i=j
 own:∀i,i<n->Ax w B (kv i) (K i)
 apart:∀i j,i<n->j<n->i≠j->(kv i).ownBlock=none∨(kv i).ownBlock≠(kv j).ownBlock
 low:∀i,i<n->B<=nb i
 lowc:B<=c
theorem KC{w:World}{B:Nat}{v:Value}{l:List Int}(h:Ax w B v l){g:Nat}(e:v.ownBlock=some g):∃cur,w.heap[g]? =some (.cells cur 2):=by
 rcases h.2 with⟨rfl,_⟩|⟨g',cap,cur,rfl,_,hb,_⟩
 ·cases e
 ·simp only[Value.ownBlock,Option.some.injEq]at e;subst e;exact⟨cur,hb⟩
theorem T8{w:World}{B:Nat}{v:Value}{l:List Int}(h:Ax w B v l){g:Nat}{cs:Array Value}{t:Nat}(hg:Ah w g (.cells cs t))(ht:t≠2):some g≠v.ownBlock:=fun e=>by
 obtain⟨cur,hb⟩:=KC h e.symm;unfold Ah at hg;rw[hg]at hb;simp only[Option.some.injEq,Obj.cells.injEq]at hb;exact ht hb.2.1
theorem X9{w:World}{B:Nat}{v:Value}{l:List Int}(h:Ax w B v l){g n:Nat}{m:Int->Option Nat}(hg:FU w g n m):some g≠v.ownBlock:=fun e=>by
 obtain⟨cur,hb⟩:=KC h e.symm;obtain⟨es,clock,hm⟩:=hg.isMap;rw[hm]at hb;cases hb
theorem Dj.below{w w':World}{B c n:Nat}{ids:Nat->Int}{ob off:Nat}{nb:Nat->Nat}{kv:Nat->Value}{K:Nat->List Int}(h:Dj w B c n ids ob off nb kv K)(hb:Below w w w'):Dj w' B c n ids ob off nb kv K:=
 ⟨h.map.below hb,fun i hi=>(h.blk i hi).below hb,h.inj,fun i hi=>World.ownsRow.kept (h.own i hi) (row:=none) ⟨hb.os,hb.tape,hb.output,hb.size,fun k hk _=>hb.block k hk⟩ (by
   cases e:(kv i).ownBlock with
   |none=>exact .inl rfl
   |some g=>exact .inr (by simp)),h.apart,h.low,h.lowc⟩
theorem Dj.step{W W':World}{B c n:Nat}{ids:Nat->Int}{ob off:Nat}{nb:Nat->Nat}{kv:Nat->Value}{K:Nat->List Int}(H:Dj W B c n ids ob off nb kv K){u:Nat}(hu:u<n){v':Value}{x:Int}
 (ho:Ax W' B v' (K u++[x]))(hgr:W.grownBy W' (kv u).ownBlock)(hv:v'.ownBlock=(kv u).ownBlock∨v'.ownBlock=some W):
 Dj (W'.setCell ⟨nb u,1,none⟩ v') B c n ids ob off nb (fun j=>if j=u then v' else kv j) (fun j=>if j=u then K u++[x]else K j):=by
 have bk:∀i,i<n->Ah W' (nb i) (.cells #[.pointer (some ⟨ob,off+i*10,none⟩),kv i] 161):=fun i hi=>(hgr.block (nb i) (H.blk i hi).lt (T8 (H.own u hu) (H.blk i hi) (by omega))).trans (H.blk i hi);have mk:FU W' c n (fun x=>(Bd ids n x).map nb):=H.map.of_block (hgr.block c H.map.lt (X9 (H.own u hu) H.map));have cne:c≠nb u:=fun e=>by
  obtain⟨es,clock,hm⟩:=H.map.isMap;have:=H.blk u hu;unfold Ah at this;rw[<-e,hm]at this;cases this
 have gs:W'.grownBy (W'.setCell ⟨nb u,1,none⟩ v') (some (nb u)):=⟨rfl,rfl,rfl,by rw[nblk_setCell];exact Nat.le_refl _,fun j hj hne=>blk_setCell_other _ _ _ _ (by dsimp only;intro e;exact hne (by rw[e]))⟩;have set:∀{v:Value}{X:List Int},Ax W' B v X->Ax (W'.setCell ⟨nb u,1,none⟩ v') B v X:=fun{v X} hX=>
  World.ownsRow.kept hX gs (.inr (fun e=>T8 hX (bk u hu) (by omega) e.symm))
 refine⟨mk.of_block (blk_setCell_other _ _ _ _ cne),fun i hi=>?_,H.inj,fun i hi=>?_,fun i j hi hj hne=>?_,H.low,H.lowc⟩
 ·by_cases e:i=u
  ·subst e;rw[if_pos rfl];have:=(bk i hi).jB (i:=1) v';simpa using this
  ·rw[if_neg e];exact(bk i hi).other (fun e'=>e (H.inj i u hi hu e'.symm)) v'
 ·by_cases e:i=u
  ·subst e;rw[if_pos rfl,if_pos rfl];exact set ho
  ·rw[if_neg e,if_neg e];exact set (World.ownsRow.kept (H.own i hi) hgr (H.apart i u hi hu e))
 ·have lt:∀j,j<n->(kv j).ownBlock=none∨(kv j).ownBlock≠some W.heap.size:=fun j hj=> .inr fun e=>by have:=(World.ownsRow.lt (H.own j hj) _ e).2;omega
  by_cases e:i=u
  ·subst e;rw[if_pos rfl,if_neg (fun e=>hne e.symm)];rcases hv with hv|hv
   ·rw[hv];exact H.apart _ _ hi hj hne
   ·rw[hv];exact .inr (fun e=>by have:=(World.ownsRow.lt (H.own j hj) _ e.symm).2;omega)
  ·rw[if_neg e];by_cases e':j=u
   ·subst e';rw[if_pos rfl];rcases hv with hv|hv
    ·rw[hv];exact H.apart _ _ hi hj hne
    ·rw[hv];exact lt i hi
   ·rw[if_neg e'];exact H.apart _ _ hi hj hne
end Go.Proofs.YtmikapeeflcbfaaGreatDoor
