import Derived.Test.YtmikapeeflcbfaaGreatDoorZ36
import Derived.Test.YtmikapeeflcbfaaGreatDoorZ8
import Derived.Test.YtmikapeeflcbfaaGreatDoorDWV
set_option maxRecDepth 100000
set_option maxHeartbeats 8000000
namespace Go.Proofs.YtmikapeeflcbfaaGreatDoor
open Go Go.RowKit Go.Deep Go.Maps Go.Proofs.Tryz
def Ab.ml(t:Ab):Int:=6+2*t.c1.n+t.jA.n+t.own.n+2*t.c2.n
def IZ(T:Nat->Ab)(k0:Int):Nat->Int
 |0=>k0
 |j+1=>IZ T k0 j+(T j).ml
def Lq(k:Int):ByteArray:=⟨(109::Ju k.toNat).toArray⟩
theorem Nq(k:Int)(w:World)(h0:1<=k)(h1:k<=10000000000):Calls prog 71 #[.int .i64 k] w fun e w'=>e= .returned (.string (Lq k))/\Below w w w':=by
 obtain⟨n,rfl⟩:∃n:Nat,k=n:=⟨k.toNat,by omega⟩;exact FR n w (by omega) (by omega)
structure P6(G:Nat->Value)(j:Nat)(t:Ab)(s:Int):Prop where
 n0:G (j*10)= .int .i64 s
 n1:G (j*10+1)= .int .i64 (s+1)
 n2:G (j*10+2)= .int .i64 (s+2)
 n3:G (j*10+3)= .int .i64 (s+3)
 n5:G (j*10+5)= .string (Lq (s+4+2*t.c1.n))
 n8:G (j*10+8)= .int .i64 (s+5+2*t.c1.n+t.jA.n+t.own.n)
structure JZ(w:World)(t:Ab)(s:Int):Prop where
 c1:An w t.c1.a t.c1.n (Oe (s+4)) (QX (s+4))
 it:Ej w t.jA.a t.jA.n (WG ((s+5+2*t.c1.n)).toNat)
 ow:AJ w t.own.a t.own.n (Za (s+5+2*t.c1.n+t.jA.n))
 c2:An w t.c2.a t.c2.n (Oe (s+6+2*t.c1.n+t.jA.n+t.own.n)) (QX (s+6+2*t.c1.n+t.jA.n+t.own.n))
def Ab.begs(t:Ab):Prop:=(0<t.c1.n->∃d,Gs t.c1.a t.c1.n d)/\(0<t.jA.n->∃d,Gs t.jA.a t.jA.n d)/\(0<t.own.n->∃d,Gs t.own.a t.own.n d)/\(0<t.c2.n->∃d,Gs t.c2.a t.c2.n d)
theorem JZ.jD{w w':World}{t:Ab}{s:Int}{H:Nat->Prop}(h:JZ w t s)(hb:t.begs)(k:AH H w w')(hn:∀b,t.has b->¬H b):JZ w' t s:=
 ⟨h.c1.jD hb.1 k (fun b e=>hn b (.inl e)),h.it.jD hb.2.1 k (fun b e=>hn b (.inr (.inl e))),h.ow.jD hb.2.2.1 k (fun b e=>hn b (.inr (.inr (.inl e)))),h.c2.jD hb.2.2.2 k (fun b e=>hn b (.inr (.inr (.inr e))))⟩
theorem Ab.jH.jD{B:Nat}{w w':World}{t:Ab}{H:Nat->Prop}(h:t.jH B w)(k:AH H w w')(hn:∀b,t.has b->¬H b):t.jH B w':=
 ⟨h.1.jD k (fun b e=>hn b (.inl e)),h.2.1.jD k (fun b e=>hn b (.inr (.inl e))),h.2.2.1.jD k (fun b e=>hn b (.inr (.inr (.inl e)))),h.2.2.2.jD k (fun b e=>hn b (.inr (.inr (.inr e))))⟩
theorem Ab.jH.begs{B:Nat}{w:World}{t:Ab}(h:t.jH B w):t.begs:=⟨h.1.begins,h.2.1.begins,h.2.2.1.begins,h.2.2.2.begins⟩
structure bG(g n:Nat)(T:Nat->Ab):Prop where
 a12:∀j,j<n->WB (T j).c1.a (T j).c1.n (T j).jA.a (T j).jA.n
 a13:∀j,j<n->WB (T j).c1.a (T j).c1.n (T j).own.a (T j).own.n
 a14:∀j,j<n->WB (T j).c1.a (T j).c1.n (T j).c2.a (T j).c2.n
 a23:∀j,j<n->WB (T j).jA.a (T j).jA.n (T j).own.a (T j).own.n
 a24:∀j,j<n->WB (T j).jA.a (T j).jA.n (T j).c2.a (T j).c2.n
 a34:∀j,j<n->WB (T j).own.a (T j).own.n (T j).c2.a (T j).c2.n
 ne:∀i j,i<n->j<n->i≠j->∀b,(T i).has b->¬(T j).has b
 g:∀j,j<n->¬(T j).has g
def I5(n:Nat)(T:Nat->Ab):Prop:=∀j,j<n->(T j).c1.n<=20/\(T j).jA.n<=20/\(T j).own.n<=20/\(T j).c2.n<=20
theorem Mu{T:Nat->Ab}{k0:Int}{n:Nat}(h:I5 n T):∀j,j<=n->k0<=IZ T k0 j/\IZ T k0 j<=k0+200*j
 |0,_=>⟨Int.le_refl _,by simp[IZ]⟩
 |j+1,hj=>by
  have:=Mu (k0:=k0) h j (by omega);obtain⟨h1,h2,h3,h4⟩:=h j (by omega);show k0<=IZ T k0 j+(T j).ml/\IZ T k0 j+(T j).ml<=_;unfold Ab.ml;omega
structure YC(g m n B:Nat)(T:Nat->Ab)(k0:Int)(w wr:World)(j:Nat):Prop where
 t:AH (fun b=>b=g∨∃i,i<j/\(T i).has b) w wr
 r:∃G,wr.rowIs g 88 m G/\RS G n T/\∀i,i<j->P6 G i (T i) (IZ T k0 i)
 d:∀i,i<j->JZ wr (T i) (IZ T k0 i)
theorem P6.set{G:Nat->Value}{i j:Nat}{T:Nat->Ab}{s:Int}(h:P6 G i (T i) s)(hij:i≠j)(r:Nat)(hr:r<10)(v:Value):P6 (fun q=>if q=j*10+r then v else G q) i (T i) s:=
 ⟨by rw[if_neg (by omega)];exact h.n0,by rw[if_neg (by omega)];exact h.n1,by rw[if_neg (by omega)];exact h.n2,by rw[if_neg (by omega)];exact h.n3,by rw[if_neg (by omega)];exact h.n5,by rw[if_neg (by omega)];exact h.n8⟩
theorem Oh(g n cap m B:Nat)(T:Nat->Ab)(k0:Int)(w:World)(hn:n<=1000)(hm:n*10<=m)(h0:1<=k0)(h1:k0<=1000000)(hS:bG g n T)(hz:I5 n T)(hT:∀j,j<n->(T j).jH B w)(hR:∃G,w.rowIs g 88 m G/\RS G n T):
 Calls prog 31 #[.slice (some ⟨g,0,none⟩) n cap,.int .i64 k0] w fun e w'=>e= .returned (.int .i64 (IZ T k0 n))/\YC g m n B T k0 w w' n:=by
 have HS:=hid hS;have HT:=hid hT;have HZ:=hid hz;have I0:Hid (YC g m n B T k0 w w 0):=hid ⟨AH.refl _ _,by obtain⟨G,r,s⟩:=hR;exact⟨G,r,s,fun i hi=>absurd hi (Nat.not_lt_zero _)⟩,fun i hi=>absurd hi (Nat.not_lt_zero _)⟩;clear hS hT hz hR;go_enter func31,ntmps31
 go_wp2;go_loopw [1,5] (fun kk i wr=>∃j:Nat,j<=n/\i= .int .i64 j/\kk= .int .i64 (IZ T k0 j)/\Hid (YC g m n B T k0 w wr j)) (fun _ i _=>n-(intOf i).toNat)
 case atStart=>exact⟨0,Nat.zero_le _,rfl,rfl,I0⟩
 case round=>
  clear I0;obtain⟨j,hj,rfl,rfl,HI⟩:=hrel;obtain⟨x0,x1⟩:=Mu (k0:=k0) HZ j hj;by_cases hlt:j<n
  ·have i1:(j:Int)<(n:Int):=(by omega);obtain⟨G,hR,hSl,hNu⟩:=HI.out.r;obtain⟨s1,s2,s3,s4⟩:=hSl j hlt;obtain⟨k1,k2,k3,k4⟩:=HZ.out j hlt;have NJ:=hid ((HT j hlt).jD HI.out.t (fun b hb hh=>by
    rcases hh with e|⟨i,hi,h⟩
    ·subst e;exact HS.out.g j hlt hb
    ·exact HS.out.ne i j (by omega) hlt (by omega) b h hb))
   have ng:=HS.out.g j hlt;have a12:=HS.out.a12 j hlt;have a13:=HS.out.a13 j hlt;have a14:=HS.out.a14 j hlt;have a23:=HS.out.a23 j hlt;have a24:=HS.out.a24 j hlt;have a34:=HS.out.a34 j hlt;have es:Hid (IZ T k0 (j+1)=IZ T k0 j+(T j).ml):=hid rfl;have KEEP:=hid HI.out.d;have TB0:=hid HI.out.t;have ng1:∀b,Gs (T j).c1.a (T j).c1.n b->¬b=g:=fun b hb e=>by subst e;exact ng (.inl hb)
   have ng2:∀b,Gs (T j).jA.a (T j).jA.n b->¬b=g:=fun b hb e=>by subst e;exact ng (.inr (.inl hb))
   have ng3:∀b,Gs (T j).own.a (T j).own.n b->¬b=g:=fun b hb e=>by subst e;exact ng (.inr (.inr (.inl hb)))
   have ng4:∀b,Gs (T j).c2.a (T j).c2.n b->¬b=g:=fun b hb e=>by subst e;exact ng (.inr (.inr (.inr hb)))
   obtain⟨B1,B2,B3,B4⟩:=NJ.out.begs;generalize IZ T k0 j=x at *;have z0:=hR.cell (i:=j*10) (by omega);have z1:=hR.cell (i:=j*10+1) (by omega);have z2:=hR.cell (i:=j*10+2) (by omega);have z3:=hR.cell (i:=j*10+3) (by omega);have z4:=hR.cell (i:=j*10+4) (by omega);rw[s1]at z4;have zf:=hR.frozen;have RG:Hid (∃G1,((((wr.setCell ⟨g,j*10,none⟩ (.int .i64 x)).setCell ⟨g,j*10+1,none⟩ (.int .i64 (x+1))).setCell ⟨g,j*10+2,none⟩ (.int .i64 (x+1+1))).setCell ⟨g,j*10+3,none⟩ (.int .i64 (x+1+1+1))).rowIs g 88 m G1/\RS G1 n T/\(∀i,i<j->P6 G1 i (T i) (IZ T k0 i))/\G1 (j*10)= .int .i64 x/\G1 (j*10+1)= .int .i64 (x+1)/\G1 (j*10+2)= .int .i64 (x+1+1)/\G1 (j*10+3)= .int .i64 (x+1+1+1)):=hid ⟨_,(((hR.set (j*10) (.int .i64 x)).set (j*10+1) (.int .i64 (x+1))).set (j*10+2) (.int .i64 (x+1+1))).set (j*10+3) (.int .i64 (x+1+1+1)),(((hSl.set j 0 (by omega) (.int .i64 x)).set j 1 (by omega) (.int .i64 (x+1))).set j 2 (by omega) (.int .i64 (x+1+1))).set j 3 (by omega) (.int .i64 (x+1+1+1)),fun i hi=>((((hNu i hi).set (by omega) 0 (by omega) _).set (by omega) 1 (by omega) _).set (by omega) 2 (by omega) _).set (by omega) 3 (by omega) _,by rw[if_neg (by omega),if_neg (by omega),if_neg (by omega),if_pos rfl],by rw[if_neg (by omega),if_neg (by omega),if_pos rfl],by rw[if_neg (by omega),if_pos rfl],by rw[if_pos rfl]⟩;have U1:=hid (((((AH.refl (fun b=>b=g) wr).put rfl (j*10) (.int .i64 x)).put rfl (j*10+1) (.int .i64 (x+1))).put rfl (j*10+2) (.int .i64 (x+1+1))).put rfl (j*10+3) (.int .i64 (x+1+1+1)));have N1:=hid (NJ.out.jD U1 (fun b hb e=>by subst e;exact ng hb));have C1:=hid (Iw (T j).c1 B (x+1+1+1+1) _ (by omega) (by omega) (by omega) N1.out.1);clear HI hSl hNu s1 s2 s3 s4;go_wp2_with fail
   clear z0 z1 z2 z3 z4 zf;generalize (((wr.setCell ⟨g,j*10,none⟩ (.int .i64 x)).setCell ⟨g,j*10+1,none⟩ (.int .i64 (x+1))).setCell ⟨g,j*10+2,none⟩ (.int .i64 (x+1+1))).setCell ⟨g,j*10+3,none⟩ (.int .i64 (x+1+1+1))=W1 at *;refine C1.out.mono ?_;rintro e w2 ⟨rfl,t2,cm1⟩;have CM1:=hid cm1;have U2:=hid ((U1.out.mono (H':=fun b=>b=g∨(T j).has b) (fun b e=> .inl e)).trans (t2.mono (fun b e=> .inr (.inl e))));obtain⟨G2,R2',S2,M2,p0,p1,p2,p3⟩:=RG.out;have R2:=hid (t2.row R2' (fun e=>ng (.inl e)));have N2:=hid (N1.out.2.1.jD t2 (fun b e1 e2=>a12 b e2 e1));have N3:=hid (N1.out.2.2.1.jD t2 (fun b e1 e2=>a13 b e2 e1));have N4:=hid (N1.out.2.2.2.jD t2 (fun b e1 e2=>a14 b e2 e1));clear R2' RG U1 N1 C1 t2 cm1;generalize hy:x+1+1+1+1+2*((T j).c1.n:Int)=y at *;have y0:x<=y/\y<=x+44:=(by omega);have HY:=hid hy;clear hy;go_wp2_with fail
   refine(Nq y w2 (by omega) (by omega)).mono ?_;rintro e w3 ⟨rfl,hb3⟩;have t3:AH (fun _=>False) w2 w3:=AH.of_below hb3;have R3:=t3.row R2 (fun e=>e);have CM1a:=hid (CM1.out.jD B1 t3 (fun _ _ e=>e));have U3:=hid (U2.out.trans (AH.of_below hb3));have N2a:=hid (N2.out.jD t3 (fun _ _ e=>e));have N3a:=hid (N3.out.jD t3 (fun _ _ e=>e));have N4a:=hid (N4.out.jD t3 (fun _ _ e=>e));clear R2 CM1 U2 N2 N3 N4 t3 hb3;obtain⟨s1,s2,s3,s4⟩:=S2 j hlt;have z5:=R3.cell (i:=j*10+5) (by omega);have z6:=R3.cell (i:=j*10+6) (by omega);rw[s2]at z6;have zf:=R3.frozen;have RG:Hid (∃G1,(w3.setCell ⟨g,j*10+5,none⟩ (.string (Lq y))).rowIs g 88 m G1/\RS G1 n T/\(∀i,i<j->P6 G1 i (T i) (IZ T k0 i))/\G1 (j*10)= .int .i64 x/\G1 (j*10+1)= .int .i64 (x+1)/\G1 (j*10+2)= .int .i64 (x+1+1)/\G1 (j*10+3)= .int .i64 (x+1+1+1)/\G1 (j*10+5)= .string (Lq y)):=hid ⟨_,R3.set (j*10+5) (.string (Lq y)),S2.set j 5 (by omega) (.string (Lq y)),fun i hi=>(M2 i hi).set (by omega) 5 (by omega) _,by rw[if_neg (by omega)];exact p0,by rw[if_neg (by omega)];exact p1,by rw[if_neg (by omega)];exact p2,by rw[if_neg (by omega)];exact p3,by rw[if_pos rfl]⟩;have V4:=hid ((AH.refl (fun b=>b=g) w3).put rfl (j*10+5) (.string (Lq y)));have C4:=hid (Wa (T j).jA B (y+1) _ (by omega) (by omega) (by omega) (N2a.out.jD V4 ng2));clear R3 S2 M2 p0 p1 p2 p3 s1 s2 s3 s4;go_wp2_with fail
   clear z5 z6 zf;generalize w3.setCell ⟨g,j*10+5,none⟩ (.string (Lq y))=W4 at *;refine C4.out.mono ?_;rintro e w5 ⟨rfl,t5,cm2⟩;have CM2:=hid cm2;have CM1b:=hid ((CM1a.out.jD B1 V4 ng1).jD B1 t5 (fun b e1 e2=>a12 b e1 e2));have U5:=hid ((U3.out.trans (V4.out.mono (fun b e=> .inl e))).trans (t5.mono (fun b e=> .inr (.inr (.inl e)))));obtain⟨G5,R5',S5,M5,p0,p1,p2,p3,p5⟩:=RG.out;have R5:=t5.row R5' (fun e=>ng (.inr (.inl e)));have N3b:=hid ((N3a.out.jD V4 ng3).jD t5 (fun b e1 e2=>a23 b e2 e1));have N4b:=hid ((N4a.out.jD V4 ng4).jD t5 (fun b e1 e2=>a24 b e2 e1));clear RG R5' C4 V4 U3 N2a N3a N4a CM1a t5 cm2;generalize hv:y+1+((T j).jA.n:Int)=v at *;have v0:x<=v/\v<=x+80:=(by omega);have HV:=hid hv;clear hv;obtain⟨s1,s2,s3,s4⟩:=S5 j hlt;have z7:=R5.cell (i:=j*10+7) (by omega);rw[s3]at z7;have C6:=hid (PV (T j).own B v _ (by omega) (by omega) (by omega) N3b);clear s1 s2 s3 s4;go_wp2_with fail
   refine C6.out.mono ?_;rintro e w6 ⟨rfl,t6,cm3⟩;have CM3:=hid cm3;have CM1c:=hid (CM1b.out.jD B1 t6 (fun b e1 e2=>a13 b e1 e2));have CM2c:=hid (CM2.out.jD B2 t6 (fun b e1 e2=>a23 b e1 e2));have U6:=hid (U5.out.trans (t6.mono (fun b e=> .inr (.inr (.inr (.inl e))))));have R6:=t6.row R5 (fun e=>ng (.inr (.inr (.inl e))));have N4c:=hid (N4b.out.jD t6 (fun b e1 e2=>a34 b e2 e1));clear z7 R5 C6 U5 CM1b CM2 N3b N4b t6 cm3;generalize hu:v+((T j).own.n:Int)=u at *;have u0:x<=u/\u<=x+120:=(by omega);have HU:=hid hu;clear hu;obtain⟨s1,s2,s3,s4⟩:=S5 j hlt;have z8:=R6.cell (i:=j*10+8) (by omega);have z9:=R6.cell (i:=j*10+9) (by omega);rw[s4]at z9;have zf:=R6.frozen;have RG:Hid (∃G1,(w6.setCell ⟨g,j*10+8,none⟩ (.int .i64 u)).rowIs g 88 m G1/\RS G1 n T/\(∀i,i<j->P6 G1 i (T i) (IZ T k0 i))/\G1 (j*10)= .int .i64 x/\G1 (j*10+1)= .int .i64 (x+1)/\G1 (j*10+2)= .int .i64 (x+1+1)/\G1 (j*10+3)= .int .i64 (x+1+1+1)/\G1 (j*10+5)= .string (Lq y)/\G1 (j*10+8)= .int .i64 u):=hid ⟨_,R6.set (j*10+8) (.int .i64 u),S5.set j 8 (by omega) (.int .i64 u),fun i hi=>(M5 i hi).set (by omega) 8 (by omega) _,by rw[if_neg (by omega)];exact p0,by rw[if_neg (by omega)];exact p1,by rw[if_neg (by omega)];exact p2,by rw[if_neg (by omega)];exact p3,by rw[if_neg (by omega)];exact p5,by rw[if_pos rfl]⟩;have V7:=hid ((AH.refl (fun b=>b=g) w6).put rfl (j*10+8) (.int .i64 u));have C7:=hid (Iw (T j).c2 B (u+1) _ (by omega) (by omega) (by omega) (N4c.out.jD V7 ng4));clear R6 S5 M5 p0 p1 p2 p3 p5 s1 s2 s3 s4;go_wp2_with fail
   clear z8 z9 zf;generalize w6.setCell ⟨g,j*10+8,none⟩ (.int .i64 u)=W7 at *;refine C7.out.mono ?_;rintro e w8 ⟨rfl,t8,cm4⟩;have U8:=hid ((U6.out.trans (V7.out.mono (fun b e=> .inl e))).trans (t8.mono (fun b e=> .inr (.inr (.inr (.inr e))))));have F1:=hid ((CM1c.out.jD B1 V7 ng1).jD B1 t8 (fun b e1 e2=>a14 b e1 e2));have F2:=hid ((CM2c.out.jD B2 V7 ng2).jD B2 t8 (fun b e1 e2=>a24 b e1 e2));have F3:=hid ((CM3.out.jD B3 V7 ng3).jD B3 t8 (fun b e1 e2=>a34 b e1 e2));have F4:=hid cm4;have FIN:Hid (YC g m n B T k0 w w8 (j+1)):=hid (by
    have hyy:=HY.out;have hvv:=HV.out;have huu:=HU.out;obtain⟨G8,R8',S8,M8,p0,p1,p2,p3,p5,p8⟩:=RG.out;have R8:=t8.row R8' (fun e=>ng (.inr (.inr (.inr e))));have exj:IZ T k0 j=x:=by
     have:=es.out;have e2:IZ T k0 (j+1)=IZ T k0 j+(T j).ml:=rfl;omega
    refine⟨(TB0.out.mono (fun b e=>?_)).trans (U8.out.mono (fun b e=>?_)),⟨G8,R8,S8,fun i hi=>?_⟩,fun i hi=>?_⟩
    ·rcases e with e|⟨i,hi,h⟩
     ·exact .inl e
     ·exact .inr ⟨i,by omega,h⟩
    ·rcases e with e|h
     ·exact .inl e
     ·exact .inr ⟨j,by omega,h⟩
    ·by_cases e:i=j
     ·subst e;rw[exj];refine⟨p0,p1,by rw[p2];congr 1;omega,by rw[p3];congr 1;omega,by rw[p5];congr 2;omega,by rw[p8];congr 1;omega⟩
     ·exact M8 i (by omega)
    ·by_cases e:i=j
     ·subst e;rw[exj];have e1:x+1+1+1+1=x+4:=(by omega);have e2:y+1=x+5+2*((T i).c1.n:Int):=(by omega);have e3:v=x+5+2*((T i).c1.n:Int)+((T i).jA.n:Int):=(by omega);have e4:u+1=x+6+2*((T i).c1.n:Int)+((T i).jA.n:Int)+((T i).own.n:Int):=(by omega);have d1:=F1.out;have d2:=F2.out;have d3:=F3.out;have d4:=F4.out;rw[e1]at d1;rw[e2]at d2;rw[e3]at d3;rw[e4]at d4;exact⟨d1,d2,d3,d4⟩
     ·refine(KEEP i (by omega)).jD (HT i (by omega)).begs U8 (fun b hb h=>?_);rcases h with rfl|h
      ·exact HS.out.g i (by omega) hb
      ·exact HS.out.ne i j (by omega) hlt e b hb h)
   have eu:u+1+2*((T j).c2.n:Int)=IZ T k0 (j+1):=by
    have:=es.out;have:=HY.out;have:=HV.out;have:=HU.out;unfold Ab.ml at *;omega
   clear KEEP TB0 es RG t8 cm4 U6 V7 CM1c CM2c CM3 N4c C7 U8 F1 F2 F3 F4;go_wp2;exact⟨⟨j+1,by omega,by go_num,by first|rfl|rw[eu],FIN⟩,by simp[intOf];omega⟩
  ·have ej:n=j:=(by omega);have i1:¬(j:Int)<(n:Int):=(by omega);subst ej;go_wp2;go_ret;exact⟨rfl,HI⟩
theorem JZ.below{w w':World}{t:Ab}{s:Int}(h:JZ w t s)(hb:Below w w w'):JZ w' t s:=⟨h.c1.below hb,h.it.below hb,h.ow.below hb,h.c2.below hb⟩
theorem Kb.below{w w':World}{t:Ac}{s:Int}(h:Kb w t s)(hb:Below w w w'):Kb w' t s:=⟨h.c1.below hb,h.c2.below hb,h.ow.below hb⟩
theorem Om(g n cap m:Nat)(T:Nat->Ab)(k0:Int)(w:World)(hn:n<=1000)(hm:n*10<=m)(h0:1<=k0)(h1:k0<=1000000)(hz:I5 n T)(hR:∃G,w.rowIs g 88 m G/\RS G n T/\∀i,i<n->P6 G i (T i) (IZ T k0 i))(hd:∀i,i<n->JZ w (T i) (IZ T k0 i)):
 Calls prog 34 #[.slice (some ⟨g,0,none⟩) n cap,.int .i64 k0] w fun e w'=>e= .returned (.int .i64 (IZ T k0 n))/\Below w w w':=by
 have HZ:=hid hz;have HD:=hid hd;have HR:=hid hR;clear hz hd hR;go_enter func34,ntmps34
 go_wp2;go_loopw [1,5] (fun kk i wr=>∃j:Nat,j<=n/\i= .int .i64 j/\kk= .int .i64 (IZ T k0 j)/\Below w w wr) (fun _ i _=>n-(intOf i).toNat)
 case atStart=>exact⟨0,Nat.zero_le _,rfl,rfl,Below.refl _ _⟩
 case round=>
  obtain⟨j,hj,rfl,rfl,hB⟩:=hrel;obtain⟨x0,x1⟩:=Mu (k0:=k0) HZ j hj;by_cases hlt:j<n
  ·have i1:(j:Int)<(n:Int):=(by omega);obtain⟨G,hRw0,hSl,hNu⟩:=HR.out;have hRw:=Dw hRw0 hB;obtain⟨s1,s2,s3,s4⟩:=hSl j hlt;obtain⟨k1,k2,k3,k4⟩:=HZ.out j hlt;obtain⟨n0,n1,n2,n3,n5,n8⟩:=hNu j hlt;have DD:=hid ((HD j hlt).below hB);have es:Hid (IZ T k0 (j+1)=IZ T k0 j+(T j).ml):=hid rfl;have RR:=hid hRw;have z0:=hRw.cell (i:=j*10) (by omega);have z1:=hRw.cell (i:=j*10+1) (by omega);have z2:=hRw.cell (i:=j*10+2) (by omega);have z3:=hRw.cell (i:=j*10+3) (by omega);have z4:=hRw.cell (i:=j*10+4) (by omega);rw[n0]at z0;rw[n1]at z1;rw[n2]at z2;rw[n3]at z3;rw[s1]at z4;unfold Al.val at z4;generalize IZ T k0 j=x at *;have e1:x+1+1+1+1=x+4:=(by omega);have e2:x+1+1=x+2:=(by omega);have e3:x+1+1+1=x+3:=(by omega);have C1:=hid (FV (T j).c1.a (T j).c1.n (T j).c1.k (x+1+1+1+1) wr (by omega) (by omega) (by omega) (by rw[e1];exact DD.out.c1));rw[<-e2]at z2;rw[<-e3]at z3;clear hRw0 hRw hSl hNu e1 e2 e3 n0 n1 n2 n3;go_wp2_with fail
   refine C1.out.mono ?_;rintro e w2 ⟨rfl,rfl⟩;have p1:¬x+1+1+1+1+2*((T j).c1.n:Int)<0:=(by omega);have hrr:=RR.out;have z5:=hrr.cell (i:=j*10+5) (by omega);rw[n5]at z5;rw[show x+1+1+1+1+2*((T j).c1.n:Int)=x+4+2*((T j).c1.n:Int) from by omega]at p1 ⊢;have gl:=hrr.lt;have u5:∀p:Up w2,p.W.cell? ⟨g,j*10+5,none⟩=some (.string (Lq (x+4+2*((T j).c1.n:Int)))):=fun p=>(p.h.cell (p:=⟨g,j*10+5,none⟩) gl).trans z5;have MJ:Hid (∀W,Calls prog 71 #[.int .i64 (x+4+2*((T j).c1.n:Int))] W fun e w'=>e= .returned (.string (Lq (x+4+2*((T j).c1.n:Int))))/\Below W W w'):=hid (fun W=>Nq _ W (by omega) (by omega));clear C1 z0 z1 z2 z3 z4 z5 n5 hrr;generalize Lq (x+4+2*((T j).c1.n:Int))=tx at *;go_wp2;refine Ay (by kernel_rfl) (by kernel_rfl) ?_;repeat(go_big_quiet_step (first|(go_at_call 71;exact FQ (MJ _))))
   refine wpQuiet_nil ?_;rintro _ ⟨p,rfl⟩;have hb3:=p.h;generalize p.W=w3 at *;have D3:=hid (DD.out.below hb3);have R3:=hid (Dw RR hb3);have B3:=hid (Ae hB hb3);have hrr:=R3.out;have z6:=hrr.cell (i:=j*10+6) (by omega);rw[s2]at z6;unfold Ao.val at z6;have e4:Hid (x+4+2*((T j).c1.n:Int)+1=x+5+2*((T j).c1.n:Int)):=hid (by omega);have C3:=hid (Vl (T j).jA (x+4+2*((T j).c1.n:Int)+1) w3 (by omega) (by omega) (by omega) (by rw[e4.out];exact D3.out.it));clear u5 MJ DD RR hB hb3 s1 s2 hrr p1;go_wp2_with fail
   refine C3.out.mono ?_;rintro e w4 ⟨rfl,hb4⟩;have D4:=hid (D3.out.below hb4);have R4:=hid (Dw R3 hb4);have B4:=hid (Ae B3 hb4);have hrr:=R4.out;have z7:=hrr.cell (i:=j*10+7) (by omega);rw[s3]at z7;unfold Av.val at z7;rw[e4.out];have p2:¬x+5+2*((T j).c1.n:Int)+((T j).jA.n:Int)<0:=(by omega);have C4:=hid (Il (T j).own.a (T j).own.n (T j).own.k (x+5+2*((T j).c1.n:Int)+((T j).jA.n:Int)) w4 (by omega) (by omega) (by omega) D4.out.ow);clear z6 C3 D3 R3 B3 hb4 hrr s3 e4;go_wp2_with fail
   refine C4.out.mono ?_;rintro e w5 ⟨rfl,rfl⟩;have p3:¬x+5+2*((T j).c1.n:Int)+((T j).jA.n:Int)+((T j).own.n:Int)<0:=(by omega);have hrr:=R4.out;have z8:=hrr.cell (i:=j*10+8) (by omega);have z9:=hrr.cell (i:=j*10+9) (by omega);rw[n8]at z8;rw[s4]at z9;unfold Al.val at z9;have e5:Hid (x+5+2*((T j).c1.n:Int)+((T j).jA.n:Int)+((T j).own.n:Int)+1=x+6+2*((T j).c1.n:Int)+((T j).jA.n:Int)+((T j).own.n:Int)):=hid (by omega);have C5:=hid (FV (T j).c2.a (T j).c2.n (T j).c2.k (x+5+2*((T j).c1.n:Int)+((T j).jA.n:Int)+((T j).own.n:Int)+1) w5 (by omega) (by omega) (by omega) (by rw[e5.out];exact D4.out.c2));clear z7 C4 hrr n8 s4 p2;go_wp2_with fail
   refine C5.out.mono ?_;rintro e w6 ⟨rfl,rfl⟩;rw[e5.out];have p4:¬x+6+2*((T j).c1.n:Int)+((T j).jA.n:Int)+((T j).own.n:Int)+2*((T j).c2.n:Int)<0:=(by omega);have eu:x+6+2*((T j).c1.n:Int)+((T j).jA.n:Int)+((T j).own.n:Int)+2*((T j).c2.n:Int)=IZ T k0 (j+1):=by
    have:=es.out;unfold Ab.ml at *;omega
   clear C5 z8 z9 p3 e5;go_wp2;exact⟨⟨j+1,by omega,by go_num,by first|rfl|rw[eu],B4⟩,by simp[intOf];omega⟩
  ·have ej:n=j:=(by omega);have i1:¬(j:Int)<(n:Int):=(by omega);subst ej;go_wp2;go_ret;exact⟨rfl,hB⟩
theorem FA:∀{L:List (List Nat)},L.flatten.Nodup->∀{i j:Nat}{a b:List Nat}{x:Nat},L[i]? =some a->L[j]? =some b->i≠j->x∈a->x∈b->False
 |[],_,i,_,_,_,_,h,_,_,_,_=>by simp at h
 |l::r,hn,i,j,a,b,x,hi,hj,ne,ha,hb=>by
  rw[List.flatten_cons,List.nodup_append]at hn;obtain⟨_,h2,h3⟩:=hn;have up:∀{k:Nat}{c:List Nat},r[k]? =some c->∀y∈c,y∈r.flatten:=fun{k c} hk y hy=>List.mem_flatten.2 ⟨c,List.mem_of_getElem? hk,hy⟩;match i,j with
  |0,0=>exact ne rfl
  |0,j+1=>
   simp at hi;subst hi;simp at hj;exact h3 x ha x (up hj x hb) rfl
  |i+1,0=>
   simp at hj;subst hj;simp at hi;exact h3 x hb x (up hi x ha) rfl
  |i+1,j+1=>
   simp at hi hj;exact FA h2 hi hj (by omega) ha hb
theorem GO:∀{L:List (List Nat)},L.flatten.Nodup->∀{l:List Nat},l∈L->l.Nodup
 |[],_,_,h=>by cases h
 |a::r,hn,l,h=>by
  rw[List.flatten_cons,List.nodup_append]at hn;rcases List.mem_cons.1 h with rfl|h
  ·exact hn.1
  ·exact GO hn.2.1 h
theorem GK{c:Al}{b:Nat}(h:Gs c.a c.n b):b∈c.bs:=by unfold Al.bs;obtain⟨o,e⟩:=h.2;rw[if_pos h.1,e];simp
theorem UI{c:Av}{b:Nat}(h:Gs c.a c.n b):b∈c.bs:=by unfold Av.bs;obtain⟨o,e⟩:=h.2;rw[if_pos h.1,e];simp
theorem YX{c:Ao}{b:Nat}(h:Gs c.a c.n b):b∈c.bs:=by unfold Ao.bs;obtain⟨o,e⟩:=h.2;rw[if_pos h.1,e];simp
theorem ci{β:Type}{lt:List Ac}{f:Ac->β}{i:Nat}(hi:i<lt.length):(lt.map f)[i]? =some (f (As lt i)):=by simp[As,hi]
theorem Zz{β:Type}{lo:List Ab}{f:Ab->β}{i:Nat}(hi:i<lo.length):(lo.map f)[i]? =some (f (Aa lo i)):=by simp[Aa,hi]
theorem GC{lt:List Ac}{lo:List Ab}{f:Ac->List Nat}{f':Ab->List Nat}:(∀i,i<lt.length->(lt.map f++lo.map f')[i]? =some (f (As lt i)))/\(∀j,j<lo.length->(lt.map f++lo.map f')[lt.length+j]? =some (f' (Aa lo j))):=by
 refine⟨fun i hi=>?_,fun j hj=>?_⟩
 ·rw[List.getElem?_append_left (by simpa using hi)];exact ci hi
 ·rw[List.getElem?_append_right (by simp),List.length_map,Nat.add_sub_cancel_left];exact Zz hj
theorem Ab.jH.below{B:Nat}{w w':World}{t:Ab}(h:t.jH B w)(hb:Below w w w'):t.jH B w':=⟨h.1.below hb,h.2.1.below hb,h.2.2.1.below hb,h.2.2.2.below hb⟩
structure KM(w:World)(B g h mg mh:Nat)(lt:List Ac)(lo:List Ab):Prop where
 ts:bF g lt.length (As lt)
 os:bG h lo.length (Aa lo)
 x1:∀i j,i<lt.length->j<lo.length->∀b,(As lt i).hs b->¬(Aa lo j).has b
 x2:∀i,i<lt.length->¬(As lt i).hs h
 x3:∀j,j<lo.length->¬(Aa lo j).has g
 x4:g≠h
 tz:I6 lt.length (As lt)
 oz:I5 lo.length (Aa lo)
 tn:∀i,i<lt.length->(As lt i).new B w
 on:∀j,j<lo.length->(Aa lo j).jH B w
 gr:∃G,w.rowIs g 86 mg G/\Tn G lt.length (As lt)
 hr:∃G,w.rowIs h 88 mh G/\RS G lo.length (Aa lo)
 lg:lt.length*7<=mg/\lt.length<=1000
 lh:lo.length*10<=mh/\lo.length<=1000
 bg:B<=g
 bh:B<=h
theorem UO{w:World}{B ty sz n c:Nat}{a:Option Addr}{xs:List Value}(h:w.ownsRow B ty sz (.slice a n c) n xs)(hn:0<n):∃g G,a=some ⟨g,0,none⟩/\B<=g/\w.rowIs g ty (c*sz) G/\n*sz<=c*sz:=by
 rcases h.2 with⟨hv,h0⟩|⟨g,cap,cur,hv,hb,hg,h1,h2,h3,h4⟩
 ·omega
 ·simp only[Value.slice.injEq]at hv;obtain⟨rfl,_,rfl⟩:=hv;exact⟨g,fun i=>cur.getD i undef,rfl,hb,⟨cur,hg,h3,fun i hi=>by simp[h3,hi]⟩,Nat.mul_le_mul_right _ h1⟩
theorem KM.of{w:World}{B ca co:Nat}{ta oa:Option Addr}{lt:List Ac}{lo:List Ab}(h:Ec w B (.slice ta lt.length ca) (.slice oa lo.length co) lt lo)(ha:Apart lt lo)(hat:(DW ta ca oa co lt lo).at w)(h1:0<lt.length/\lt.length<=1000)(h2:0<lo.length/\lo.length<=1000)(hz:I6 lt.length (As lt))(hy:I5 lo.length (Aa lo)):
 ∃g h',ta=some ⟨g,0,none⟩/\oa=some ⟨h',0,none⟩/\KM w B g h' (ca*7) (co*10) lt lo:=by
 obtain⟨g,G,rfl,bg,hG,lg⟩:=UO h.t h1.1;obtain⟨h',H,rfl,bh,hH,lh⟩:=UO h.o h2.1;have tn:∀i,i<lt.length->(As lt i).new B w:=fun i hi=>h.tn _ (by simp[As,hi]);have on:∀i,i<lo.length->(Aa lo i).jH B w:=fun i hi=>h.on _ (by simp[Aa,hi]);have C:((lt.map Ac.cb)++(lo.map Ab.cb)).flatten.Nodup:=by have:=ha.c;simpa using this
 have I:((lt.map fun x=>x.own.bs)++(lo.map fun x=>x.own.bs)).flatten.Nodup:=by have:=ha.i;simpa using this
 have rc:∀{c:Al}{b:Nat},c.new B w->Gs c.a c.n b->∃m F,w.rowIs b 145 m F:=fun hc hb=>(hc.jG hb).2.2;have ri:∀{c:Av}{b:Nat},c.new B w->Gs c.a c.n b->∃m F,w.rowIs b 2 m F:=fun hc hb=>(hc.jG hb).2.2;have rs:∀{c:Ao}{b:Nat},c.jH B w->Gs c.a c.n b->∃m F,w.rowIs b 9 m F:=fun hc hb=>(hc.jG hb).2.2;have no:∀{b t t':Nat},(∃m F,w.rowIs b t m F)->(∃m F,w.rowIs b t' m F)->t≠t'->False:=fun⟨_,_,a⟩ ⟨_,_,b⟩ ne=>Du a b ne rfl;have kt:∀i,i<lt.length->∀b,(As lt i).hs b->(b∈(As lt i).cb/\∃m F,w.rowIs b 145 m F)∨(b∈(As lt i).own.bs/\∃m F,w.rowIs b 2 m F):=fun i hi b hb=>by
  rcases hb with hb|hb|hb
  ·exact .inl ⟨List.mem_append_left _ (GK hb),rc (tn i hi).1 hb⟩
  ·exact .inl ⟨List.mem_append_right _ (GK hb),rc (tn i hi).2.1 hb⟩
  ·exact .inr ⟨UI hb,ri (tn i hi).2.2 hb⟩
 have ko:∀i,i<lo.length->∀b,(Aa lo i).has b->(b∈(Aa lo i).cb/\∃m F,w.rowIs b 145 m F)∨(b∈(Aa lo i).own.bs/\∃m F,w.rowIs b 2 m F)∨(b∈(Aa lo i).jA.bs/\∃m F,w.rowIs b 9 m F):=fun i hi b hb=>by
  rcases hb with hb|hb|hb|hb
  ·exact .inl ⟨List.mem_append_left _ (GK hb),rc (on i hi).1 hb⟩
  ·exact .inr (.inr ⟨YX hb,rs (on i hi).2.1 hb⟩)
  ·exact .inr (.inl ⟨UI hb,ri (on i hi).2.2.1 hb⟩)
  ·exact .inl ⟨List.mem_append_right _ (GK hb),rc (on i hi).2.2.2 hb⟩
 have in1:∀{a b:List Nat},(a++b).Nodup->∀x,x∈a->x∈b->False:=fun hn x h1 h2=>(List.nodup_append.1 hn).2.2 x h1 x h2 rfl;have ct:∀i,i<lt.length->(As lt i).cb.Nodup:=fun i hi=>by
  have:=List.mem_of_getElem? ((GC (lo:=lo) (f:=Ac.cb) (f':=Ab.cb)).1 i hi);exact GO C this
 have co':∀i,i<lo.length->(Aa lo i).cb.Nodup:=fun i hi=>by
  have:=List.mem_of_getElem? ((GC (lt:=lt) (f:=Ac.cb) (f':=Ab.cb)).2 i hi);exact GO C this
 have GT:∃m F,w.rowIs g 86 m F:=⟨_,_,hG⟩;have HT:∃m F,w.rowIs h' 88 m F:=⟨_,_,hH⟩;refine⟨g,h',rfl,rfl,⟨⟨fun j hj b e1 e2=>in1 (ct j hj) b (GK e1) (GK e2),fun j hj b e1 e2=>no (rc (tn j hj).1 e1) (ri (tn j hj).2.2 e2) (by decide),fun j hj b e1 e2=>no (rc (tn j hj).2.1 e1) (ri (tn j hj).2.2 e2) (by decide),fun i j hi hj ne b e1 e2=>?_,fun j hj e=>?_⟩,
  ⟨fun j hj b e1 e2=>no (rc (on j hj).1 e1) (rs (on j hj).2.1 e2) (by decide),fun j hj b e1 e2=>no (rc (on j hj).1 e1) (ri (on j hj).2.2.1 e2) (by decide),fun j hj b e1 e2=>in1 (co' j hj) b (GK e1) (GK e2),fun j hj b e1 e2=>no (rs (on j hj).2.1 e1) (ri (on j hj).2.2.1 e2) (by decide),fun j hj b e1 e2=>no (rs (on j hj).2.1 e1) (rc (on j hj).2.2.2 e2) (by decide),fun j hj b e1 e2=>no (ri (on j hj).2.2.1 e1) (rc (on j hj).2.2.2 e2) (by decide),fun i j hi hj ne b e1 e2=>?_,fun j hj e=>?_⟩,
  fun i j hi hj b e1 e2=>?_,fun i hi e=>?_,fun j hj e=>?_,fun e=>by subst e;exact no GT HT (by decide),hz,hy,tn,on,⟨G,hG,fun j hj=>?_⟩,⟨H,hH,fun j hj=>?_⟩,⟨lg,h1.2⟩,⟨lh,h2.2⟩,bg,bh⟩⟩
 ·rcases kt i hi b e1 with⟨a1,r1⟩|⟨a1,r1⟩<;>rcases kt j hj b e2 with⟨a2,r2⟩|⟨a2,r2⟩
  ·exact FA C (GC.1 i hi) (GC.1 j hj) ne a1 a2
  ·exact no r1 r2 (by decide)
  ·exact no r1 r2 (by decide)
  ·exact FA I (GC.1 i hi) (GC.1 j hj) ne a1 a2
 ·rcases kt j hj g e with⟨_,r1⟩|⟨_,r1⟩<;>exact no r1 GT (by decide)
 ·rcases ko i hi b e1 with⟨a1,r1⟩|⟨a1,r1⟩|⟨a1,r1⟩<;>rcases ko j hj b e2 with⟨a2,r2⟩|⟨a2,r2⟩|⟨a2,r2⟩
  ·exact FA C (GC.2 i hi) (GC.2 j hj) (by omega) a1 a2
  ·exact no r1 r2 (by decide)
  ·exact no r1 r2 (by decide)
  ·exact no r1 r2 (by decide)
  ·exact FA I (GC.2 i hi) (GC.2 j hj) (by omega) a1 a2
  ·exact no r1 r2 (by decide)
  ·exact no r1 r2 (by decide)
  ·exact no r1 r2 (by decide)
  ·exact FA ha.s (Zz (f:=fun x=>x.jA.bs) hi) (Zz (f:=fun x=>x.jA.bs) hj) ne a1 a2
 ·rcases ko j hj h' e with⟨_,r1⟩|⟨_,r1⟩|⟨_,r1⟩<;>exact no r1 HT (by decide)
 ·rcases kt i hi b e1 with⟨a1,r1⟩|⟨a1,r1⟩<;>rcases ko j hj b e2 with⟨a2,r2⟩|⟨a2,r2⟩|⟨a2,r2⟩
  ·exact FA C (GC.1 i hi) (GC.2 j hj) (by omega) a1 a2
  ·exact no r1 r2 (by decide)
  ·exact no r1 r2 (by decide)
  ·exact no r1 r2 (by decide)
  ·exact FA I (GC.1 i hi) (GC.2 j hj) (by omega) a1 a2
  ·exact no r1 r2 (by decide)
 ·rcases kt i hi h' e with⟨_,r1⟩|⟨_,r1⟩<;>exact no r1 HT (by decide)
 ·rcases ko j hj g e with⟨_,r1⟩|⟨_,r1⟩|⟨_,r1⟩<;>exact no r1 GT (by decide)
 ·obtain⟨b,off,e,_,hc⟩:=hat.2.2.1 h1.1;cases e;have q:=(hc j hj).1;have f:∀{i:Nat}{v:Value},i<ca*7->w.cell? ⟨g,i,none⟩=some v->G i=v:=fun hi hv=>by
   have:=hG.cell hi;rw[hv]at this;exact(Option.some.inj this).symm
  have q2:=q.c2;have q4:=q.c4;have q5:=q.c5;rw[Nat.zero_add]at q2 q4 q5;exact⟨f (by omega) q2,f (by omega) q4,f (by omega) q5⟩
 ·obtain⟨b,off,e,_,hc⟩:=hat.2.2.2 h2.1;cases e;have q:=(hc j hj).1;have f:∀{i:Nat}{v:Value},i<co*10->w.cell? ⟨h',i,none⟩=some v->H i=v:=fun hi hv=>by
   have:=hH.cell hi;rw[hv]at this;exact(Option.some.inj this).symm
  have q4:=q.c4;have q6:=q.c6;have q7:=q.c7;have q9:=q.c9;rw[Nat.zero_add]at q4 q6 q7 q9;exact⟨f (by omega) q4,f (by omega) q6,f (by omega) q7,f (by omega) q9⟩
structure ZT(w:World)(g h mg mh:Nat)(lt:List Ac)(lo:List Ab):Prop where
 gr:∃G,w.rowIs g 86 mg G/\Tn G lt.length (As lt)/\∀i,i<lt.length->SC G i (As lt i) (Hl (As lt) 1 i)
 td:∀i,i<lt.length->Kb w (As lt i) (Hl (As lt) 1 i)
 hr:∃G,w.rowIs h 88 mh G/\RS G lo.length (Aa lo)/\∀i,i<lo.length->P6 G i (Aa lo i) (IZ (Aa lo) (Hl (As lt) 1 lt.length) i)
 od:∀i,i<lo.length->JZ w (Aa lo i) (IZ (Aa lo) (Hl (As lt) 1 lt.length) i)
theorem ZT.below{w w':World}{g h mg mh:Nat}{lt:List Ac}{lo:List Ab}(k:ZT w g h mg mh lt lo)(hb:Below w w w'):ZT w' g h mg mh lt lo:=by
 obtain⟨⟨G,a1,a2,a3⟩,b,⟨H,c1,c2,c3⟩,d⟩:=k;exact⟨⟨G,Dw a1 hb,a2,a3⟩,fun i hi=>(b i hi).below hb,⟨H,Dw c1 hb,c2,c3⟩,fun i hi=>(d i hi).below hb⟩
def Ki(lt:List Ac)(lo:List Ab):Int:=IZ (Aa lo) (Hl (As lt) 1 lt.length) lo.length
theorem QA(B g h mg mh ca co:Nat)(lt:List Ac)(lo:List Ab)(w:World)(hk:KM w B g h mg mh lt lo)(hB:B<=w.heap.size):
 Calls prog 12 #[.agg #[.slice (some ⟨g,0,none⟩) lt.length ca,.slice (some ⟨h,0,none⟩) lo.length co],.int .i64 1] w fun e w'=>e= .returned (.int .i64 (Ki lt lo))/\ZT w' g h mg mh lt lo/\Below B w w'/\∀P cs,Ah w P (.cells cs 36)->Ah w' P (.cells cs 36):=by
 have n1:No (.cells #[.slice (some ⟨g,0,none⟩) lt.length ca,.slice (some ⟨h,0,none⟩) lo.length co] 36):=⟨⟩;have b0:Below w w (w.alloc n1):=(Below.refl _ w).alloc (Nat.le_refl _) _;have A0:=hid (Ah.new w n1);have BB:=hid b0;have HK:=hid hk;have gl:g<w.heap.size:=by obtain⟨G,r,_⟩:=hk.gr;exact r.lt
 have hl:h<w.heap.size:=by obtain⟨G,r,_⟩:=hk.hr;exact r.lt
 have C1:=hid (Oo g lt.length ca mg B (As lt) 1 (w.alloc n1) hk.lg.2 hk.lg.1 (by omega) (by omega) hk.ts hk.tz (fun j hj=>(hk.tn j hj).keeps (Cp.of_below b0).l) (by obtain⟨G,r,s⟩:=hk.gr;exact⟨G,Dw r b0,s⟩));have tl:=Km (k0:=1) hk.tz lt.length (Nat.le_refl _);have l9:=hk.lg.2;obtain⟨x0,x1⟩:=A0.out.two;clear hk b0;go_enter func12,ntmps12
 go_wp2_with fail
 refine C1.out.mono ?_;rintro e w1 ⟨rfl,i1⟩;have I1:=hid i1;have nA:¬(w.heap.size=g∨∃i,i<lt.length/\(As lt i).hs w):=fun e=>by
  rcases e with e|⟨i,hi,e⟩
  ·omega
  ·have:=HK.out.tn i hi;rcases e with e|e|e
   ·have:=(this.1.jG e).1;omega
   ·have:=(this.2.1.jG e).1;omega
   ·have:=(this.2.2.jG e).1;omega
 have A1:Ah w1 w n1:=(i1.t.block _ A0.out.lt nA).trans A0.out;have on1:∀j,j<lo.length->(Aa lo j).jH B w1:=fun j hj=>((HK.out.on j hj).below BB).jD i1.t (fun b hb e=>by
  rcases e with rfl|⟨i,hi,e⟩
  ·exact HK.out.x3 j hj hb
  ·exact HK.out.x1 i j hi hj b e hb)
 have C2:=hid (Oh h lo.length co mh B (Aa lo) (Hl (As lt) 1 lt.length) w1 HK.out.lh.2 HK.out.lh.1 (by omega) (by omega) HK.out.os HK.out.oz on1 (by
  obtain⟨G,r,s⟩:=HK.out.hr;refine⟨G,i1.t.row (Dw r BB) (fun e=>?_),s⟩;rcases e with e|⟨i,hi,e⟩
  ·exact HK.out.x4 e.symm
  ·exact HK.out.x2 i hi e))
 clear x0 x1 C1 A0 i1;obtain⟨x0,x1⟩:=A1.two;go_wp2_with fail
 refine C2.out.mono ?_;rintro e w2 ⟨rfl,i2⟩;have FIN:Hid (ZT w2 g h mg mh lt lo/\Below B w w2/\∀P cs,Ah w P (.cells cs 36)->Ah w2 P (.cells cs 36)):=hid (by
  have i1:=I1.out;refine⟨⟨?_,fun i hi=>(i1.d i hi).jD (HK.out.tn i hi).begs i2.t (fun b hb e=>?_),i2.r,i2.d⟩,?_,fun P cs hP=>?_⟩
  ·obtain⟨G,r,s,nn⟩:=i1.r;refine⟨G,i2.t.row r (fun e=>?_),s,nn⟩;rcases e with e|⟨j,hj,e⟩
   ·exact HK.out.x4 e
   ·exact HK.out.x3 j hj e
  ·rcases e with rfl|⟨j,hj,e⟩
   ·exact HK.out.x2 i hi hb
   ·exact HK.out.x1 i j hi hj b hb e
  ·have t1:=i1.t;have t2:=i2.t;have bb:=BB.out;refine⟨t2.os.trans (t1.os.trans bb.os),t2.tape.trans (t1.tape.trans bb.tape),t2.output.trans (t1.output.trans bb.output),Nat.le_trans bb.size (Nat.le_trans t1.size t2.size),fun k hk=>?_⟩;have e0:=bb.block k (by omega);have e1:=t1.block k (Nat.lt_of_lt_of_le (by omega) bb.size) (fun e=>by
    rcases e with e|⟨i,hi,e⟩
    ·have:=HK.out.bg;omega
    ·have q:=HK.out.tn i hi;rcases e with e|e|e
     ·have:=(q.1.jG e).2.1;omega
     ·have:=(q.2.1.jG e).2.1;omega
     ·have:=(q.2.2.jG e).2.1;omega)
   have e2:=t2.block k (Nat.lt_of_lt_of_le (Nat.lt_of_lt_of_le (by omega) bb.size) t1.size) (fun e=>by
    rcases e with e|⟨i,hi,e⟩
    ·have:=HK.out.bh;omega
    ·have q:=HK.out.on i hi;rcases e with e|e|e|e
     ·have:=(q.1.jG e).2.1;omega
     ·have:=(q.2.1.jG e).2.1;omega
     ·have:=(q.2.2.1.jG e).2.1;omega
     ·have:=(q.2.2.2.jG e).2.1;omega)
   exact e2.trans (e1.trans e0)
  ·have no:∀{t m:Nat}{F:Nat->Value},w.rowIs P t m F->t≠36->False:=fun{t m F} hr ht=>by
    obtain⟨c,h1,_⟩:=hr;have hP':w.heap[P]? =some (.cells cs 36 (0,0)):=hP;rw[h1]at hP';simp only[Option.some.injEq,Obj.cells.injEq,and_true]at hP';exact ht hP'.2
   have pl:=hP.lt;have b0:=hP.below BB.out;have b1:Ah w1 P _:=(i1.t.block P b0.lt (fun e=>by
    rcases e with rfl|⟨i,hi,e⟩
    ·obtain⟨G,r,_⟩:=HK.out.gr;exact no r (by decide)
    ·have q:=HK.out.tn i hi;rcases e with e|e|e
     ·obtain⟨_,_,m,F,r⟩:=q.1.jG e;exact no r (by decide)
     ·obtain⟨_,_,m,F,r⟩:=q.2.1.jG e;exact no r (by decide)
     ·obtain⟨_,_,m,F,r⟩:=q.2.2.jG e;exact no r (by decide))).trans b0
   exact(i2.t.block P b1.lt (fun e=>by
    rcases e with rfl|⟨i,hi,e⟩
    ·obtain⟨G,r,_⟩:=HK.out.hr;exact no r (by decide)
    ·have q:=HK.out.on i hi;rcases e with e|e|e|e
     ·obtain⟨_,_,m,F,r⟩:=q.1.jG e;exact no r (by decide)
     ·obtain⟨_,_,m,F,r⟩:=q.2.1.jG e;exact no r (by decide)
     ·obtain⟨_,_,m,F,r⟩:=q.2.2.1.jG e;exact no r (by decide)
     ·obtain⟨_,_,m,F,r⟩:=q.2.2.2.jG e;exact no r (by decide))).trans b1)
 clear x0 x1 C2 i2 I1;go_wp2;go_ret;exact⟨rfl,FIN⟩
theorem QF(g h mg mh ca co:Nat)(lt:List Ac)(lo:List Ab)(w:World)(hk:ZT w g h mg mh lt lo)(h1:lt.length*7<=mg/\lt.length<=1000)(h2:lo.length*10<=mh/\lo.length<=1000)(hz:I6 lt.length (As lt))(hy:I5 lo.length (Aa lo)):
 Calls prog 14 #[.agg #[.slice (some ⟨g,0,none⟩) lt.length ca,.slice (some ⟨h,0,none⟩) lo.length co],.int .i64 1] w fun e w'=>e= .returned (.int .i64 (Ki lt lo))/\Below w w w':=by
 have n1:No (.cells #[.slice (some ⟨g,0,none⟩) lt.length ca,.slice (some ⟨h,0,none⟩) lo.length co] 36):=⟨⟩;have b0:Below w w (w.alloc n1):=(Below.refl _ w).alloc (Nat.le_refl _) _;have A0:=Ah.new w n1;have BB:=hid b0;have K0:=hid (hk.below b0);have tl:=Km (k0:=1) hz lt.length (Nat.le_refl _);have ol:=Mu (k0:=Hl (As lt) 1 lt.length) hy lo.length (Nat.le_refl _);have l1:=h1.2;have C1:=hid (Ol g lt.length ca mg (As lt) 1 _ h1.2 h1.1 (by omega) (by omega) hz K0.out.gr K0.out.td);have C2:=hid (fun W hW=>Om h lo.length co mh (Aa lo) (Hl (As lt) 1 lt.length) W h2.2 h2.1 (by omega) (by omega) hy (K0.out.below hW).hr (K0.out.below hW).od);obtain⟨x0,x1⟩:=A0.two;have p1:¬Hl (As lt) 1 lt.length<0:=by omega
 have p2:¬Ki lt lo<0:=by unfold Ki;omega
 have eE:IZ (Aa lo) (Hl (As lt) 1 lt.length) lo.length=Ki lt lo:=rfl;rw[eE]at C2;clear hk b0 ol tl eE;generalize Hl (As lt) 1 lt.length=s at *;generalize Ki lt lo=z at *;go_enter func14,ntmps14
 go_wp2_with fail
 refine C1.out.mono ?_;rintro e w1 ⟨rfl,rfl⟩;go_wp2_with fail
 refine(C2 _ (Below.refl _ _)).mono ?_;rintro e w2 ⟨rfl,hb2⟩;have B2:=hid (Ae BB hb2);clear x0 x1 C1 C2 hb2;go_wp2;go_ret;exact⟨rfl,B2⟩
end Go.Proofs.YtmikapeeflcbfaaGreatDoor
