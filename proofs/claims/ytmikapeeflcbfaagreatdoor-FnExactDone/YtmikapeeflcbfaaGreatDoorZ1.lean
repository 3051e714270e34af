import Derived.Test.YtmikapeeflcbfaaGreatDoorZ0
import Derived.Lib.ConvBytes
set_option maxRecDepth 100000
set_option maxHeartbeats 2000000
namespace Go.Proofs.YtmikapeeflcbfaaGreatDoor
open Go.RowKit Go.Deep Go.Proofs.Tryz
def Dl(h:Nat->Int)(i:Nat):Bool:=Dv (h i) 1 9999&&(i==0||decide (h (i-1)<h i))
def BK(n:Nat)(h:Nat->Int):Bool:=decide (n<=10)&&(List.range n).all (Dl h)
theorem VT{n:Nat}{h:Nat->Int}(e:10<n):BK n h=false:=by
 have:decide (n<=10)=false:=by simp;omega
 simp[BK,this]
theorem JK{n k:Nat}{h:Nat->Int}(hk:k<n)(e:Dl h k=false):BK n h=false:=by
 have:(List.range n).all (Dl h)=false:=by
  rw[List.all_eq_false];exact⟨k,List.mem_range.2 hk,by simp[e]⟩
 simp[BK,this]
theorem PE{n:Nat}{h:Nat->Int}(e:∀i,i<n->Dl h i=true):BK n h=decide (n<=10):=by
 have:(List.range n).all (Dl h)=true:=by
  rw[List.all_eq_true];intro i hi;exact e i (List.mem_range.1 hi)
 simp[BK,this]
theorem UV{n:Nat}{h:Nat->Int}(e:BK n h=true):n<=10/\∀i,i<n->Dl h i=true:=by
 simp only[BK,Bool.and_eq_true,decide_eq_true_eq,List.all_eq_true,List.mem_range]at e;exact e
theorem Sq{h:Nat->Int}{k:Nat}(e:Dv (h k) 1 9999=false):Dl h k=false:=by simp[Dl,e]
theorem WW{h:Nat->Int}{k:Nat}(h0:Dv (h k) 1 9999=true)(e:h k<=lastOf h k):Dl h k=false:=by
 have h0:=DL.1 h0;by_cases e0:k=0
 ·subst e0;simp[lastOf]at e;omega
 ·simp[lastOf,e0]at e;have:decide (h (k-1)<h k)=false:=by simp;omega
  simp[Dl,e0,this]
theorem YU{h:Nat->Int}{k:Nat}(h1:Dv (h k) 1 9999=true)(h2:lastOf h k<h k):Dl h k=true:=by
 by_cases e:k=0
 ·subst e;simp_all[Dl]
 ·simp[lastOf,e]at h2;simp[Dl,h1,h2]
theorem Xc{h:Nat->Int}{k:Nat}(h0:0<k)(e:h k<=h (k-1)):Dl h k=false:=by
 have e0:¬k=0:=by omega
 have:decide (h (k-1)<h k)=false:=by simp;omega
 simp[Dl,e0,this]
theorem SG{h:Nat->Int}{k:Nat}(h1:Dv (h k) 1 9999=true)(e:k=0∨h (k-1)<h k):Dl h k=true:=by
 rcases e with e|e<;>simp_all[Dl]
theorem Hu(a:Option Addr)(n cap:Nat)(h:Nat->Int)(w:World)(hn:n<=maxLen)(hc:AJ w a n h):
 Calls prog 154 #[.slice a n cap] w fun e w'=>e= .returned (.bool (BK n h))/\w'=w:=by
 unfold maxLen at hn;by_cases h10:10<n
 ·have h10':(10:Int)<(n:Int):=by omega
  go_enter func154,ntmps154
  go_wp2;go_ret;exact⟨Ag (VT h10).symm,rfl⟩
 ·have h10':¬(10:Int)<(n:Int):=by omega
  go_enter func154,ntmps154
  go_wp2;go_loop [3,11] (fun l i=>∃k:Nat,k<=n/\i= .int .i64 k/\l= .int .i64 (lastOf h k)/\(∀j,j<k->Dl h j=true)) (fun _ i=>n-(intOf i).toNat)
  case atStart=>exact⟨0,Nat.zero_le _,rfl,rfl,fun j hj=>by omega⟩
  case round=>
   obtain⟨k,hk,rfl,rfl,hall⟩:=hrel;have HA:Hid (∀j,j<k->Dl h j=true):=hall;clear hall;by_cases hlt':k<n
   ·obtain⟨b,off,rfl,hlt,hcc⟩:=hc (by omega);have g1:=hcc k hlt';clear hcc hc;by_cases t1:Dv (h k) 1 9999=true
    ·go_wp2_with(go_at_call 129;refine(He _ _).mono ?_;rintro e w' ⟨rfl,rfl⟩)
     ·go_ret;have t2:h k<=lastOf h k:=(by assumption);exact⟨Ag (JK hlt' (WW t1 t2)).symm,rfl⟩
     ·have t2:lastOf h k<h k:=(by assumption);go_round;case rel=>
       refine⟨k+1,by omega,by go_num,by rw[Gz],fun j hj=>?_⟩;by_cases e:j=k
       ·subst e;exact YU t1 t2
       ·exact HA.out j (by omega)
      case measure=>simp[intOf];omega
    ·have t1':Dv (h k) 1 9999=false:=(by simpa using t1);clear t1;go_wp2_with(go_at_call 129;refine(He _ _).mono ?_;rintro e w' ⟨rfl,rfl⟩)
     go_ret;exact⟨Ag (JK hlt' (Sq t1')).symm,rfl⟩
   ·clear hc;go_wp2;go_ret;have e:k=n:=(by omega);subst e;exact⟨Ag (by rw[PE HA.out];simp;omega),rfl⟩
theorem Ma(a:Option Addr)(n cap:Nat)(h:Nat->Int)(w:World)(hn:n<=maxLen)(hc:AJ w a n h):
 Calls prog 79 #[.slice a n cap] w fun e w'=>e= .returned (.bool (BK n h))/\Below w w w':=by
 unfold maxLen at hn;go_enter func79,ntmps79
 go_wp2;go_loopw [3] (fun i wr=>∃k:Nat,k<=n/\i= .int .i64 k/\(∀j,j<k->Dl h j=true)/\Below w w wr) (fun i _=>n-(intOf i).toNat)
 case atStart=>exact⟨0,Nat.zero_le _,rfl,fun j hj=>by omega,Below.refl _ _⟩
 case round=>
  obtain⟨k,hk,rfl,hall,hB⟩:=hrel;have HA:Hid (∀j,j<k->Dl h j=true):=hall;clear hall;by_cases hlt':k<n
  ·obtain⟨b,off,rfl,hlt,hcc⟩:=hc (by omega);have g1:wr.cell? ⟨b,off+k,none⟩=some (.int .i64 (h k)):=(hB.cell (p:=⟨b,_,none⟩) hlt).trans (hcc k hlt');have i0:(0:Int)<=(k:Int):=(by omega);have i1:(k:Int)<(n:Int):=(by omega);clear hc;by_cases t1:Dv (h k) 1 9999=true
   ·by_cases k0:k=0
    ·have d0:decide ((0:Int)<(k:Int))=false:=(by simp;omega);have d1:decide (0<k)=false:=(by simp;omega);have K0:Hid (k=0):=k0;clear k0 hcc;go_wp2_with fail
     go_quiet((go_at_call 42;exact Calls.quiet_of_same (BM _ _ _ _)))
     go_wp2;go_roundw;case rel=>
      refine⟨k+1,by omega,by go_num,fun j hj=>?_,below_drewN hB _⟩;by_cases e:j=k
      ·subst e;exact SG t1 (.inl K0)
      ·exact HA.out j (by omega)
     case measure=>simp[intOf];omega
    ·obtain⟨m,rfl⟩:∃m,k=m+1:=⟨k-1,by omega⟩;have d0:(0:Int)<((m+1:Nat):Int):=(by omega);have q1:wr.cell? ⟨b,off+m,none⟩=some (.int .i64 (h m)):=(hB.cell (p:=⟨b,_,none⟩) hlt).trans (hcc m (by omega));have j1:((m:Nat):Int)<(n:Int):=(by omega);clear hcc;by_cases t5:h (m+1)<=h m
     ·have d5:decide (h (m+1)<=h m)=true:=(by simpa using t5);go_wp2_with fail
      go_quiet((go_at_call 42;exact Calls.quiet_of_same (BM _ _ _ _)))
      go_wp2;go_ret;exact⟨Ag (JK hlt' (Xc (by omega) t5)).symm,below_drewN hB _⟩
     ·have d5:decide (h (m+1)<=h m)=false:=(by simpa using t5);go_wp2_with fail
      go_quiet((go_at_call 42;exact Calls.quiet_of_same (BM _ _ _ _)))
      go_wp2;go_roundw;case rel=>
       refine⟨m+1+1,by omega,by go_num,fun j hj=>?_,below_drewN hB _⟩;by_cases e:j=m+1
       ·subst e;exact SG t1 (.inr (by simpa using t5))
       ·exact HA.out j (by omega)
      case measure=>simp[intOf];omega
   ·have t1':Dv (h k) 1 9999=false:=(by simpa using t1);clear t1 hcc;go_wp2_with fail
    go_quiet((go_at_call 42;exact Calls.quiet_of_same (BM _ _ _ _)))
    go_wp2;go_ret;exact⟨Ag (JK hlt' (Sq t1')).symm,below_drewN hB _⟩
  ·clear hc;go_wp2;go_ret;have e:k=n:=(by omega);subst e;exact⟨Ag (by rw[PE HA.out];exact decide_eq_decide.2 (by omega)),hB⟩
def Df(id made b1:Int)(n1:Nat)(f1 g1:Nat->Int)(b2:Int)(n2:Nat)(f2 g2:Nat->Int)(n3:Nat)(h:Nat->Int):Bool:=
 Dv id 1 9&&AX b1 n1 f1 g1&&AX b2 n2 f2 g2&&BK n3 h&&Dv made 0 30
theorem Wn{id made b1:Int}{n1:Nat}{f1 g1:Nat->Int}{b2:Int}{n2:Nat}{f2 g2:Nat->Int}{n3:Nat}{h:Nat->Int}(t0:Dv id 1 9=true)(t1:AX b1 n1 f1 g1=true)(t2:AX b2 n2 f2 g2=true)(t3:BK n3 h=true):
 Df id made b1 n1 f1 g1 b2 n2 f2 g2 n3 h=Dv made 0 30:=by simp[Df,t0,t1,t2,t3]
theorem Sv(id made b1:Int)(a1:Option Addr)(n1 k1:Nat)(f1 g1:Nat->Int)(b2:Int)(a2:Option Addr)(n2 k2:Nat)(f2 g2:Nat->Int)(a3:Option Addr)(n3 k3:Nat)(h:Nat->Int)(w:World)
 (hn1:n1<=maxLen)(hn2:n2<=maxLen)(hn3:n3<=maxLen)(hc1:An w a1 n1 f1 g1)(hc2:An w a2 n2 f2 g2)(hc3:AJ w a3 n3 h):
 Calls prog 38 #[.agg #[.int .i64 id,.int .i64 b1,.slice a1 n1 k1,.int .i64 b2,.slice a2 n2 k2,.slice a3 n3 k3,.int .i64 made]] w fun e w'=>e= .returned (.bool (Df id made b1 n1 f1 g1 b2 n2 f2 g2 n3 h))/\Below w w w':=by
 have hb0:=(Below.refl _ w).alloc (Nat.le_refl _) (.cells #[.int .i64 id,.int .i64 b1,.slice a1 n1 k1,.int .i64 b2,.slice a2 n2 k2,.slice a3 n3 k3,.int .i64 made] 86);have C1:=hc1.below hb0;have C2:=hc2.below hb0;have C3:=hc3.below hb0;clear hc1 hc2 hc3;by_cases t0:Dv id 1 9=true
 ·skip;go_enter func38,ntmps38
  go_wp2_with(go_at_call 42;refine(BM _ _ _ _).mono ?_;rintro e w' ⟨rfl,rfl⟩)
  refine(Gg _ _ _ _ f1 g1 _ hn1 C1).mono ?_;rintro e w1 ⟨rfl,hb1⟩;obtain⟨q1,_⟩:=DY hb1;have z1:w.heap.size<w1.heap.size:=by have:=hb1.size;simp at this;omega
  have B1:Below w w w1:=hb0.trans (hb1.mono (by simp));by_cases t1:AX b1 n1 f1 g1=true
  ·go_wp2_with fail
   refine(Gg _ _ _ _ f2 g2 _ hn2 (C2.below hb1)).mono ?_;rintro e w2 ⟨rfl,hb2⟩;obtain⟨q2,_⟩:=DY hb2;have z2:w.heap.size<w2.heap.size:=(by have:=hb2.size;omega);have B2:Below w w w2:=B1.trans (hb2.mono (by omega));by_cases t2:AX b2 n2 f2 g2=true
   ·go_wp2_with fail
    refine(Ma _ _ _ h _ hn3 ((C3.below hb1).below hb2)).mono ?_;rintro e w3 ⟨rfl,hb3⟩;obtain⟨q3,_⟩:=DY hb3;have z3:w.heap.size<w3.heap.size:=(by have:=hb3.size;omega);have B3:Below w w w3:=B2.trans (hb3.mono (by omega));by_cases t3:BK n3 h=true
    ·go_wp2_with(go_at_call 42;refine(BM _ _ _ _).mono ?_;rintro e w' ⟨rfl,rfl⟩)
     go_ret;exact⟨Ag (by simp[Df,t0,t1,t2,t3]),B3⟩
    ·have t3':BK n3 h=false:=(by simpa using t3);clear t3;go_wp2;go_ret;exact⟨Ag (by simp[Df,t3']),B3⟩
   ·have t2':AX b2 n2 f2 g2=false:=(by simpa using t2);clear t2;go_wp2;go_ret;exact⟨Ag (by simp[Df,t2']),B2⟩
  ·have t1':AX b1 n1 f1 g1=false:=(by simpa using t1);clear t1;go_wp2;go_ret;exact⟨Ag (by simp[Df,t1']),B1⟩
 ·have t0':Dv id 1 9=false:=by simpa using t0
  clear t0;go_enter func38,ntmps38
  go_wp2_with(go_at_call 42;refine(BM _ _ _ _).mono ?_;rintro e w' ⟨rfl,rfl⟩)
  go_ret;exact⟨Ag (by simp[Df,t0']),hb0⟩
theorem Ir(id made b1:Int)(a1:Option Addr)(n1 k1:Nat)(f1 g1:Nat->Int)(b2:Int)(a2:Option Addr)(n2 k2:Nat)(f2 g2:Nat->Int)(a3:Option Addr)(n3 k3:Nat)(h:Nat->Int)(w:World)
 (hn1:n1<=maxLen)(hn2:n2<=maxLen)(hn3:n3<=maxLen)(hc1:An w a1 n1 f1 g1)(hc2:An w a2 n2 f2 g2)(hc3:AJ w a3 n3 h):
 Calls prog 125 #[.agg #[.int .i64 id,.int .i64 b1,.slice a1 n1 k1,.int .i64 b2,.slice a2 n2 k2,.slice a3 n3 k3,.int .i64 made]] w fun e w'=>e= .returned (.bool (Df id made b1 n1 f1 g1 b2 n2 f2 g2 n3 h))/\Below w w w':=by
 have hb0:=(Below.refl _ w).alloc (Nat.le_refl _) (.cells #[.int .i64 id,.int .i64 b1,.slice a1 n1 k1,.int .i64 b2,.slice a2 n2 k2,.slice a3 n3 k3,.int .i64 made] 86);have C1:=hc1.below hb0;have C2:=hc2.below hb0;have C3:=hc3.below hb0;clear hc1 hc2 hc3;by_cases t0:Dv id 1 9=true
 ·obtain⟨s1,s2⟩:=DL.1 t0;go_enter func125,ntmps125
  go_wp2_with fail
  refine(Dn _ _ _ _ f1 g1 _ hn1 C1).mono ?_;rintro e w1 ⟨rfl,hb1⟩;obtain⟨q1,_⟩:=DY hb1;have z1:w.heap.size<w1.heap.size:=by have:=hb1.size;simp at this;omega
  have B1:Below w w w1:=hb0.trans (hb1.mono (by simp));by_cases t1:AX b1 n1 f1 g1=true
  ·go_wp2_with fail
   refine(Dn _ _ _ _ f2 g2 _ hn2 (C2.below hb1)).mono ?_;rintro e w2 ⟨rfl,hb2⟩;obtain⟨q2,_⟩:=DY hb2;have z2:w.heap.size<w2.heap.size:=(by have:=hb2.size;omega);have B2:Below w w w2:=B1.trans (hb2.mono (by omega));by_cases t2:AX b2 n2 f2 g2=true
   ·go_wp2_with fail
    refine(Hu _ _ _ h _ hn3 ((C3.below hb1).below hb2)).mono ?_;rintro e w3 ⟨rfl,rfl⟩;have B3:=B2;by_cases t3:BK n3 h=true
    ·go_wp2;all_goals
      go_ret;refine⟨Ag ?_,B3⟩;rw[Wn t0 t1 t2 t3];first|exact(JE (by assumption)).symm|exact(MN (by assumption)).symm
    ·have t3':BK n3 h=false:=(by simpa using t3);clear t3;go_wp2;go_ret;exact⟨Ag (by simp[Df,t3']),B3⟩
   ·have t2':AX b2 n2 f2 g2=false:=(by simpa using t2);clear t2;go_wp2;go_ret;exact⟨Ag (by simp[Df,t2']),B2⟩
  ·have t1':AX b1 n1 f1 g1=false:=(by simpa using t1);clear t1;go_wp2;go_ret;exact⟨Ag (by simp[Df,t1']),B1⟩
 ·have t0':Dv id 1 9=false:=by simpa using t0
  clear t0;go_enter func125,ntmps125
  by_cases s1:1<=id
  ·have s2:¬id<=9:=fun s2=>by simp[Dv,s1,s2]at t0'
   go_wp2;go_ret;exact⟨Ag (by simp[Df,t0']),hb0⟩
  ·go_wp2;go_ret;exact⟨Ag (by simp[Df,t0']),hb0⟩
theorem Gi(n:Nat)(left:Int)(h0:0<=left)(h1:left<=1048576):(Gc n left= -1)∨(0<=Gc n left/\Gc n left<=left/\n<=1048576):=by
 unfold Gc;split
 ·exact .inl rfl
 ·right;omega
theorem Qd(id made b1:Int)(a1:Option Addr)(n1 k1:Nat)(b2:Int)(a2:Option Addr)(n2 k2:Nat)(a3:Option Addr)(n3 k3:Nat)(left:Int)(w:World)
 (hn1:n1<=maxLen)(hn2:n2<=maxLen)(hn3:n3<=maxLen)(h0:0<=left)(h1:left<=1048576):
 Calls prog 35 #[.agg #[.int .i64 id,.int .i64 b1,.slice a1 n1 k1,.int .i64 b2,.slice a2 n2 k2,.slice a3 n3 k3,.int .i64 made],.int .i64 left] w fun e w'=>
  ∃r:Int,e= .returned (.int .i64 r)/\(r= -1∨(0<=r/\r<=left/\n1<=1048576/\n2<=1048576/\n3<=1048576))/\Below w w w':=by
 have hb0:=(Below.refl _ w).alloc (Nat.le_refl _) (.cells #[.int .i64 id,.int .i64 b1,.slice a1 n1 k1,.int .i64 b2,.slice a2 n2 k2,.slice a3 n3 k3,.int .i64 made] 78);go_enter func35,ntmps35
 go_wp2_with fail
 refine(FG _ _ _ _ _ _ hn1 h0 h1).mono ?_;rintro e w1 ⟨rfl,hb1⟩;obtain⟨q1,_⟩:=DY hb1;have z1:w.heap.size<w1.heap.size:=by have:=hb1.size;simp at this;omega
 have B1:Below w w w1:=hb0.trans (hb1.mono (by simp));have s1:=Gi n1 left h0 h1;generalize Gc n1 left=r1 at *;rcases s1 with rfl|⟨u1,v1,m1⟩
 ·go_wp2;go_ret;exact⟨_,rfl,.inl rfl,B1⟩
 ·go_wp2_with fail
  refine(FG _ _ _ _ _ _ hn2 u1 (by omega)).mono ?_;rintro e w2 ⟨rfl,hb2⟩;obtain⟨q2,_⟩:=DY hb2;have z2:w.heap.size<w2.heap.size:=by have:=hb2.size;omega
  have B2:Below w w w2:=B1.trans (hb2.mono (by omega));have s2:=Gi n2 r1 u1 (by omega);generalize Gc n2 r1=r2 at *;rcases s2 with rfl|⟨u2,v2,m2⟩
  ·go_wp2;go_ret;exact⟨_,rfl,.inl rfl,B2⟩
  ·go_wp2_with fail
   refine(JL _ _ _ _ _ hn3 u2 (by omega)).mono ?_;rintro e w3 ⟨rfl,rfl⟩;have s3:=Gi n3 r2 u2 (by omega);generalize Gc n3 r2=r3 at *;rcases s3 with rfl|⟨u3,v3,m3⟩
   ·go_wp2;go_ret;exact⟨_,rfl,.inl rfl,B2⟩
   ·go_wp2;go_ret;exact⟨_,rfl,.inr ⟨u3,by omega,m1,m2,m3⟩,B2⟩
theorem QJ(id made b1:Int)(a1:Option Addr)(n1 k1:Nat)(f1 g1:Nat->Int)(b2:Int)(a2:Option Addr)(n2 k2:Nat)(f2 g2:Nat->Int)(a3:Option Addr)(n3 k3:Nat)(h:Nat->Int)(w:World)
 (hn1:n1<=1048576)(hn2:n2<=1048576)(hn3:n3<=1048576)(hc1:An w a1 n1 f1 g1)(hc2:An w a2 n2 f2 g2)(hc3:AJ w a3 n3 h):
 Calls prog 49 #[.agg #[.int .i64 id,.int .i64 b1,.slice a1 n1 k1,.int .i64 b2,.slice a2 n2 k2,.slice a3 n3 k3,.int .i64 made]] w fun e w'=>
  ∃c1 c2 c3,e= .returned (.agg #[.int .i64 id,.int .i64 b1,.slice (some ⟨c1,0,none⟩) n1 n1,.int .i64 b2,.slice (some ⟨c2,0,none⟩) n2 n2,.slice (some ⟨c3,0,none⟩) n3 n3,.int .i64 made])/\
   w'.rowIs c1 145 (n1*2) (AO f1 g1)/\w'.rowIs c2 145 (n2*2) (AO f2 g2)/\w'.rowIs c3 2 n3 (fun i=> .int .i64 (h i))/\Below w w w'/\w.heap.size<=c1/\w.heap.size<=c2/\w.heap.size<=c3:=by
 go_enter func49,ntmps49
 go_wp2_with fail
 refine(Ez _ _ _ _ f1 g1 _ hn1 (hc1.below ?_)).mono ?_
 ·exact((((Below.refl _ w).alloc (Nat.le_refl _) _).alloc (by simp) _).alloc (by simp;omega) _)
 rintro e w1 ⟨c1,rfl,hl1,r1,hb1⟩;obtain⟨q1,p1⟩:=DY hb1;have z1:w.heap.size+1+1<w1.heap.size:=by have:=hb1.size;simp at this;omega
 have z1':w.heap.size+1<w1.heap.size:=by omega
 have z1'':w.heap.size<w1.heap.size:=by omega
 have B1:Below w w w1:=((((Below.refl _ w).alloc (Nat.le_refl _) _).alloc (by simp) _).alloc (by simp;omega) _).trans (hb1.mono (by simp;omega));have d1:w.heap.size+1+1+1<=c1:=by simpa using hl1
 clear hl1;go_wp2_with fail
 refine(Ez _ _ _ _ f2 g2 _ hn2 (hc2.below ?_)).mono ?_
 ·exact(B1.setCell (by dsimp only;omega) _).setCell (by dsimp only;omega) _
 rintro e w2 ⟨c2,rfl,hl2,r2,hb2⟩;obtain⟨q2,p2⟩:=DY hb2;have e2:w1.heap.size<=w2.heap.size:=by have:=hb2.size;simpa using this
 have z2:w.heap.size+1+1<w2.heap.size:=by omega
 have z2':w.heap.size+1<w2.heap.size:=by omega
 have z2'':w.heap.size<w2.heap.size:=by omega
 have B2:Below w w w2:=((B1.setCell (by dsimp only;omega) _).setCell (by dsimp only;omega) _).trans (hb2.mono (by simp;omega));have d2:w1.heap.size<=c2:=by simpa using hl2
 have r1':w2.rowIs c1 145 (n1*2) (AO f1 g1):=World.rowIs.below ((r1.setOther (by dsimp only;omega) _).setOther (by dsimp only;omega) _) hb2 (by have:=r1.lt;simpa using this);clear hl2;go_wp2_with fail
 refine(Jw _ _ _ h _ hn3 (hc3.below ?_)).mono ?_
 ·exact(B2.setCell (by dsimp only;omega) _).setCell (by dsimp only;omega) _
 rintro e w3 ⟨rfl,r3,hb3⟩;obtain⟨q3,p3⟩:=DY hb3;have e3:w2.heap.size<=w3.heap.size:=by have:=hb3.size;simpa using this
 have z3:w.heap.size+1+1<w3.heap.size:=by omega
 have z3':w.heap.size+1<w3.heap.size:=by omega
 have z3'':w.heap.size<w3.heap.size:=by omega
 have B3:Below w w w3:=((B2.setCell (by dsimp only;omega) _).setCell (by dsimp only;omega) _).trans (hb3.mono (by simp;omega));have r1'':w3.rowIs c1 145 (n1*2) (AO f1 g1):=World.rowIs.below ((r1'.setOther (by dsimp only;omega) _).setOther (by dsimp only;omega) _) hb3 (by have:=r1'.lt;simpa using this);have r2'':w3.rowIs c2 145 (n2*2) (AO f2 g2):=World.rowIs.below ((r2.setOther (by dsimp only;omega) _).setOther (by dsimp only;omega) _) hb3 (by have:=r2.lt;simpa using this);obtain⟨c3,h3⟩:∃c3,c3=w2.heap.size:=⟨_,rfl⟩;have r3':w3.rowIs c3 2 n3 (fun i=> .int .i64 (h i)):=by rw[h3];simpa using r3
 clear r3 r1 r2 r1' hc1 hc2 hc3;go_wp2;refine bodyPost_ret (v:= .agg #[.int .i64 id,.int .i64 b1,.slice (some ⟨c1,0,none⟩) n1 n1,.int .i64 b2,.slice (some ⟨c2,0,none⟩) n2 n2,.slice (some ⟨c3,0,none⟩) n3 n3,.int .i64 made]) (by simp[results,Tryz.results49,go_sem, *]) rfl ⟨c1,c2,c3,rfl,?_,?_,?_,?_,by omega,by omega,by omega⟩
 ·iterate 9 refine World.rowIs.setOther ?_ (by dsimp only;omega) _
  exact r1''
 ·iterate 9 refine World.rowIs.setOther ?_ (by dsimp only;omega) _
  exact r2''
 ·iterate 9 refine World.rowIs.setOther ?_ (by dsimp only;omega) _
  exact r3'
 ·iterate 9 refine Below.setCell ?_ (by dsimp only;omega) _
  exact B3
theorem OD(id made b1:Int)(a1:Option Addr)(n1 k1:Nat)(f1 g1:Nat->Int)(b2:Int)(a2:Option Addr)(n2 k2:Nat)(f2 g2:Nat->Int)(a3:Option Addr)(n3 k3:Nat)(h:Nat->Int)
 (a1':Option Addr)(k1':Nat)(a2':Option Addr)(k2':Nat)(a3':Option Addr)(k3':Nat)(w:World)
 (hn1:n1<=maxLen)(hn2:n2<=maxLen)(hn3:n3<=maxLen)(hc1:An w a1 n1 f1 g1)(hc2:An w a2 n2 f2 g2)(hc3:AJ w a3 n3 h)(hd1:An w a1' n1 f1 g1)(hd2:An w a2' n2 f2 g2)(hd3:AJ w a3' n3 h):
 Calls prog 66 #[.agg #[.int .i64 id,.int .i64 b1,.slice a1 n1 k1,.int .i64 b2,.slice a2 n2 k2,.slice a3 n3 k3,.int .i64 made],.agg #[.int .i64 id,.int .i64 b1,.slice a1' n1 k1',.int .i64 b2,.slice a2' n2 k2',.slice a3' n3 k3',.int .i64 made]] w fun e w'=>
  e= .returned (.bool true)/\Below w w w':=by
 have hb0:=((Below.refl _ w).alloc (Nat.le_refl _) (.cells #[.int .i64 id,.int .i64 b1,.slice a1 n1 k1,.int .i64 b2,.slice a2 n2 k2,.slice a3 n3 k3,.int .i64 made] 86)).alloc (by simp) (.cells #[.int .i64 id,.int .i64 b1,.slice a1' n1 k1',.int .i64 b2,.slice a2' n2 k2',.slice a3' n3 k3',.int .i64 made] 86);go_enter func66,ntmps66
 go_wp2_with fail
 refine(E8 _ _ _ _ _ _ f1 g1 _ hn1 (hc1.below hb0) (hd1.below hb0)).mono ?_;rintro e w1 ⟨rfl,hb1⟩;obtain⟨q1,_⟩:=DY hb1;have z1:w.heap.size+1<w1.heap.size:=by have:=hb1.size;simp at this;omega
 have z1':w.heap.size<w1.heap.size:=by omega
 have B1:Below w w w1:=hb0.trans (hb1.mono (by simp;omega));go_wp2_with fail
 refine(E8 _ _ _ _ _ _ f2 g2 _ hn2 (hc2.below B1) (hd2.below B1)).mono ?_;rintro e w2 ⟨rfl,hb2⟩;obtain⟨q2,_⟩:=DY hb2;have z2:w.heap.size+1<w2.heap.size:=by have:=hb2.size;omega
 have z2':w.heap.size<w2.heap.size:=by omega
 have B2:Below w w w2:=B1.trans (hb2.mono (by omega));go_wp2_with fail
 refine(I4 _ _ _ _ _ h _ hn3 (hc3.below B2) (hd3.below B2)).mono ?_;rintro e w3 ⟨rfl,hb3⟩;obtain⟨q3,_⟩:=DY hb3;have B3:Below w w w3:=B2.trans (hb3.mono (by omega));clear hc1 hc2 hc3 hd1 hd2 hd3;go_wp2;go_ret;exact⟨rfl,B3⟩
def Ah(W:World)(P:Nat)(o:Obj):Prop:=W.heap[P]? =some o
theorem Ah.new(W:World)(o:Obj):Ah (W.alloc o) W o:=blk_alloc_new _ _
theorem Ah.lt{W:World}{P:Nat}{o:Obj}(h:Ah W P o):P<W.heap.size:=(Array.getElem?_eq_some_iff.1 h).1
theorem Ah.alloc{W:World}{P:Nat}{o:Obj}(h:Ah W P o)(o':Obj):Ah (W.alloc o') P o:=(blk_alloc_lt _ _ _ h.lt).trans h
theorem Ah.below{W W':World}{P:Nat}{o:Obj}(h:Ah W P o)(hb:Below W W W'):Ah W' P o:=(hb.block P h.lt).trans h
theorem Ah.two{W:World}{P t:Nat}{x y:Value}(h:Ah W P (.cells #[x,y] t)):W.cell? ⟨P,0,none⟩=some x/\W.cell? ⟨P,1,none⟩=some y:=by
 unfold Ah at h;simp[World.cell?,h]
theorem hid{p:Prop}(h:p):Hid p:=h
theorem Ae{w a b:World}(h:Below w w a)(k:Below a a b):Below w w b:=h.trans (k.mono h.size)
structure Al where
 a:Option Addr
 n:Nat
 k:Nat
 f:Nat->Int
 g:Nat->Int
structure Av where
 a:Option Addr
 n:Nat
 k:Nat
 h:Nat->Int
def Al.at(w:World)(c:Al):Prop:=c.n<=maxLen/\An w c.a c.n c.f c.g
def Av.at(w:World)(c:Av):Prop:=c.n<=maxLen/\AJ w c.a c.n c.h
def Al.val(c:Al):Value:= .slice c.a c.n c.k
def Av.val(c:Av):Value:= .slice c.a c.n c.k
structure Ac where
 id:Int
 b1:Int
 c1:Al
 b2:Int
 c2:Al
 own:Av
 made:Int
def Ac.val(t:Ac):Value:= .agg #[t.id,t.b1,t.c1.val,t.b2,t.c2.val,t.own.val,t.made]
def Ac.at(w:World)(t:Ac):Prop:=t.c1.at w/\t.c2.at w/\t.own.at w
theorem Al.at.below{w w':World}{c:Al}(h:c.at w)(hb:Below w w w'):c.at w':=⟨h.1,h.2.below hb⟩
theorem Av.at.below{w w':World}{c:Av}(h:c.at w)(hb:Below w w w'):c.at w':=⟨h.1,h.2.below hb⟩
theorem Ac.at.below{w w':World}{t:Ac}(h:t.at w)(hb:Below w w w'):t.at w':=⟨h.1.below hb,h.2.1.below hb,h.2.2.below hb⟩
structure Dz(w:World)(b o:Nat)(t:Ac):Prop where
 c0:w.cell? ⟨b,o,none⟩=some (.int .i64 t.id)
 c1:w.cell? ⟨b,o+1,none⟩=some (.int .i64 t.b1)
 c2:w.cell? ⟨b,o+2,none⟩=some t.c1.val
 c3:w.cell? ⟨b,o+3,none⟩=some (.int .i64 t.b2)
 c4:w.cell? ⟨b,o+4,none⟩=some t.c2.val
 c5:w.cell? ⟨b,o+5,none⟩=some t.own.val
 c6:w.cell? ⟨b,o+6,none⟩=some (.int .i64 t.made)
theorem Dz.below{w w':World}{b o:Nat}{t:Ac}(h:Dz w b o t)(hl:b<w.heap.size)(hb:Below w w w'):Dz w' b o t:=
 ⟨(hb.cell (p:=⟨b,o,none⟩) hl).trans h.c0,(hb.cell (p:=⟨b,o+1,none⟩) hl).trans h.c1,(hb.cell (p:=⟨b,o+2,none⟩) hl).trans h.c2,(hb.cell (p:=⟨b,o+3,none⟩) hl).trans h.c3,(hb.cell (p:=⟨b,o+4,none⟩) hl).trans h.c4,(hb.cell (p:=⟨b,o+5,none⟩) hl).trans h.c5,(hb.cell (p:=⟨b,o+6,none⟩) hl).trans h.c6⟩
def E9(w:World)(a:Option Addr)(n:Nat)(T:Nat->Ac):Prop:=
 0<n->∃b off,a=some ⟨b,off,none⟩/\b<w.heap.size/\∀i,i<n->Dz w b (off+i*7) (T i)/\(T i).at w
theorem E9.below{w w':World}{a:Option Addr}{n:Nat}{T:Nat->Ac}(h:E9 w a n T)(hb:Below w w w'):E9 w' a n T:=fun hn=>by
 obtain⟨b,off,e,hlt,hc⟩:=h hn;exact⟨b,off,e,Nat.lt_of_lt_of_le hlt hb.size,fun i hi=>⟨(hc i hi).1.below hlt hb,(hc i hi).2.below hb⟩⟩
def Ac.small(t:Ac):Prop:=t.c1.n<=1048576/\t.c2.n<=1048576/\t.own.n<=1048576
theorem TA(t:Ac)(left:Int)(w:World)(ht:t.at w)(h0:0<=left)(h1:left<=1048576):
 Calls prog 35 #[t.val,.int .i64 left] w fun e w'=>∃r:Int,e= .returned (.int .i64 r)/\(r= -1∨(0<=r/\r<=left/\t.small))/\Below w w w':=
 Qd t.id t.made t.b1 t.c1.a t.c1.n t.c1.k t.b2 t.c2.a t.c2.n t.c2.k t.own.a t.own.n t.own.k left w ht.1.1 ht.2.1.1 ht.2.2.1 h0 h1
theorem Og(a:Option Addr)(n cap:Nat)(T:Nat->Ac)(left:Int)(w:World)(hn:n<=maxLen)(h0:0<=left)(h1:left<=1048576)(hT:E9 w a n T):
 Calls prog 15 #[.slice a n cap,.int .i64 left] w fun e w'=>∃r:Int,e= .returned (.int .i64 r)/\(r= -1∨(0<=r/\r<=left/\n<=1048576/\∀i,i<n->(T i).small))/\Below w w w':=by
 unfold maxLen at hn;have HT:=hid hT;clear hT;by_cases hbig:left<n
 ·have d1:IntKind.i64.wrap (left-(n:Int))=left-(n:Int):=by rw[IntKind.wrap_i64];omega
  have d2:left-(n:Int)<0:=by omega
  go_enter func15,ntmps15
  go_wp2;go_ret;exact⟨_,rfl,.inl rfl,Below.refl _ _⟩
 ·have d1:IntKind.i64.wrap (left-(n:Int))=left-(n:Int):=by rw[IntKind.wrap_i64];omega
  have d2:¬left-(n:Int)<0:=by omega
  have hn2:n<=1048576:=by omega
  go_enter func15,ntmps15
  go_wp2;go_loopw [1,5] (fun l i wr=>∃(k:Nat) (m:Int),k<=n/\i= .int .i64 k/\l= .int .i64 m/\0<=m/\m<=left/\Hid (∀j,j<k->(T j).small)/\Below w w wr) (fun _ i _=>n-(intOf i).toNat)
  case atStart=>exact⟨0,_,by omega,rfl,rfl,by omega,by omega,hid (fun j hj=>by omega),Below.refl _ _⟩
  case round=>
   obtain⟨k,m,hk,rfl,rfl,m0,m1,HS,hB⟩:=hrel;by_cases hlt:k<n
   ·obtain⟨b,off,rfl,hlt0,hc⟩:=HT.out.below hB (by omega);obtain⟨q,ht⟩:=hc k hlt;have q0:=q.c0;have q1:=q.c1;have q2:=q.c2;have q3:=q.c3;have q4:=q.c4;have q5:=q.c5;have q6:=q.c6;have i1:(k:Int)<(n:Int):=(by omega);have SZ:=hid (TA (T k) m wr ht m0 (by omega));unfold Ac.val at SZ;clear hc q ht hlt0;go_wp2_with fail
    refine SZ.out.mono ?_;rintro e w2 ⟨r,rfl,hr,hb2⟩;have B2:=Ae hB hb2;clear q0 q1 q2 q3 q4 q5 q6 SZ hb2;rcases hr with rfl|⟨r0,r1,sm⟩
    ·go_wp2;go_ret;exact⟨_,rfl,.inl rfl,B2⟩
    ·have r2:¬r<0:=(by omega);have HS2:Hid (∀j,j<k+1->(T j).small):=hid (fun j hj=>by
      by_cases e:j=k
      ·subst e;exact sm
      ·exact HS.out j (by omega))
     go_wp2;exact⟨⟨k+1,r,by omega,by go_num,rfl,r0,by omega,HS2,B2⟩,by simp[intOf];omega⟩
   ·go_wp2;go_ret;exact⟨_,rfl,.inr ⟨m0,by omega,hn2,fun i hi=>HS i (by omega)⟩,hB⟩
def Ej(w:World)(a:Option Addr)(n:Nat)(f:Nat->ByteArray):Prop:=0<n->∃b off,a=some ⟨b,off,none⟩/\b<w.heap.size/\∀i,i<n->w.cell? ⟨b,off+i,none⟩=some (.string (f i))
theorem Ej.below{w w':World}{a:Option Addr}{n:Nat}{f:Nat->ByteArray}(h:Ej w a n f)(hb:Below w w w'):Ej w' a n f:=fun hn=>by
 obtain⟨b,off,e,hlt,hc⟩:=h hn;exact⟨b,off,e,Nat.lt_of_lt_of_le hlt hb.size,fun i hi=>(hb.cell (p:=⟨b,off+i,none⟩) hlt).trans (hc i hi)⟩
structure Ao where
 a:Option Addr
 n:Nat
 k:Nat
 f:Nat->ByteArray
def Ao.at(w:World)(c:Ao):Prop:=c.n<=maxLen/\Ej w c.a c.n c.f/\∀i,i<c.n->(c.f i).size<=maxLen
def Ao.val(c:Ao):Value:= .slice c.a c.n c.k
theorem Ao.at.below{w w':World}{c:Ao}(h:c.at w)(hb:Below w w w'):c.at w':=⟨h.1,h.2.1.below hb,h.2.2⟩
def Ao.small(c:Ao):Prop:=c.n<=1048576/\∀i,i<c.n->(c.f i).size<=1048576
structure Ab where
 id:Int
 kind:Int
 up:Int
 b1:Int
 c1:Al
 data:ByteArray
 jA:Ao
 own:Av
 b2:Int
 c2:Al
def Ab.val(t:Ab):Value:= .agg #[t.id,t.kind,t.up,t.b1,t.c1.val,.string t.data,t.jA.val,t.own.val,t.b2,t.c2.val]
def Ab.at(w:World)(t:Ab):Prop:=t.c1.at w/\t.jA.at w/\t.own.at w/\t.c2.at w/\t.data.size<=maxLen
theorem Ab.at.below{w w':World}{t:Ab}(h:t.at w)(hb:Below w w w'):t.at w':=⟨h.1.below hb,h.2.1.below hb,h.2.2.1.below hb,h.2.2.2.1.below hb,h.2.2.2.2⟩
def Ab.small(t:Ab):Prop:=t.c1.n<=1048576/\t.data.size<=1048576/\t.jA.small/\t.own.n<=1048576/\t.c2.n<=1048576
structure Ci(w:World)(b o:Nat)(t:Ab):Prop where
 c0:w.cell? ⟨b,o,none⟩=some (.int .i64 t.id)
 c1:w.cell? ⟨b,o+1,none⟩=some (.int .i64 t.kind)
 c2:w.cell? ⟨b,o+2,none⟩=some (.int .i64 t.up)
 c3:w.cell? ⟨b,o+3,none⟩=some (.int .i64 t.b1)
 c4:w.cell? ⟨b,o+4,none⟩=some t.c1.val
 c5:w.cell? ⟨b,o+5,none⟩=some (.string t.data)
 c6:w.cell? ⟨b,o+6,none⟩=some t.jA.val
 c7:w.cell? ⟨b,o+7,none⟩=some t.own.val
 c8:w.cell? ⟨b,o+8,none⟩=some (.int .i64 t.b2)
 c9:w.cell? ⟨b,o+9,none⟩=some t.c2.val
theorem Ci.below{w w':World}{b o:Nat}{t:Ab}(h:Ci w b o t)(hl:b<w.heap.size)(hb:Below w w w'):Ci w' b o t:=
 ⟨(hb.cell (p:=⟨b,o,none⟩) hl).trans h.c0,(hb.cell (p:=⟨b,o+1,none⟩) hl).trans h.c1,(hb.cell (p:=⟨b,o+2,none⟩) hl).trans h.c2,(hb.cell (p:=⟨b,o+3,none⟩) hl).trans h.c3,(hb.cell (p:=⟨b,o+4,none⟩) hl).trans h.c4,(hb.cell (p:=⟨b,o+5,none⟩) hl).trans h.c5,(hb.cell (p:=⟨b,o+6,none⟩) hl).trans h.c6,(hb.cell (p:=⟨b,o+7,none⟩) hl).trans h.c7,(hb.cell (p:=⟨b,o+8,none⟩) hl).trans h.c8,(hb.cell (p:=⟨b,o+9,none⟩) hl).trans h.c9⟩
def Et(w:World)(a:Option Addr)(n:Nat)(T:Nat->Ab):Prop:=
 0<n->∃b off,a=some ⟨b,off,none⟩/\b<w.heap.size/\∀i,i<n->Ci w b (off+i*10) (T i)/\(T i).at w
theorem Et.below{w w':World}{a:Option Addr}{n:Nat}{T:Nat->Ab}(h:Et w a n T)(hb:Below w w w'):Et w' a n T:=fun hn=>by
 obtain⟨b,off,e,hlt,hc⟩:=h hn;exact⟨b,off,e,Nat.lt_of_lt_of_le hlt hb.size,fun i hi=>⟨(hc i hi).1.below hlt hb,(hc i hi).2.below hb⟩⟩
theorem N0(c:Ao)(left:Int)(w:World)(h0:0<=left)(h1:left<=1048576)(hT:c.at w):
 Calls prog 77 #[c.val,.int .i64 left] w fun e w'=>∃r:Int,e= .returned (.int .i64 r)/\(r= -1∨(0<=r/\r<=left/\c.small))/\w'=w:=by
 obtain⟨hn,HC,HZ⟩:=hT;obtain⟨a,n,cap,f⟩:=c;simp only at hn HC HZ;unfold Ao.val;simp only;unfold maxLen at hn HZ;have HT:=hid HC;have HZ':=hid HZ;clear HC HZ;have d1:IntKind.i64.wrap (left-(n:Int))=left-(n:Int):=by rw[IntKind.wrap_i64];omega
 by_cases hbig:left<n
 ·have d2:left-(n:Int)<0:=by omega
  go_enter func77,ntmps77
  go_wp2;go_ret;exact⟨_,rfl,.inl rfl,rfl⟩
 ·have d2:¬left-(n:Int)<0:=by omega
  have hn2:n<=1048576:=by omega
  go_enter func77,ntmps77
  go_wp2;go_loop [1,5] (fun l i=>∃(k:Nat) (m:Int),k<=n/\i= .int .i64 k/\l= .int .i64 m/\0<=m/\m<=left/\Hid (∀j,j<k->(f j).size<=1048576)) (fun _ i=>n-(intOf i).toNat)
  case atStart=>exact⟨0,_,by omega,rfl,rfl,by omega,by omega,hid (fun j hj=>by omega)⟩
  case round=>
   obtain⟨k,m,hk,rfl,rfl,m0,m1,HS⟩:=hrel;by_cases hlt:k<n
   ·obtain⟨b,off,rfl,hlt0,hc⟩:=HT.out (by omega);have q0:=hc k hlt;have i1:(k:Int)<(n:Int):=(by omega);have z:=HZ'.out k hlt;have d3:IntKind.i64.wrap (m-((f k).size:Int))=m-((f k).size:Int):=(by rw[IntKind.wrap_i64];omega);clear hc;by_cases hneg:m-((f k).size:Int)<0
    ·go_wp2;go_ret;exact⟨_,rfl,.inl rfl,rfl⟩
    ·have HS2:Hid (∀j,j<k+1->(f j).size<=1048576):=hid (fun j hj=>by
      by_cases e:j=k
      ·subst e;omega
      ·exact HS.out j (by omega))
     go_wp2;exact⟨⟨k+1,_,by omega,by go_num,rfl,by omega,by omega,HS2⟩,by simp[intOf];omega⟩
   ·go_wp2;go_ret;exact⟨_,rfl,.inr ⟨m0,by omega,(⟨hn2,fun i (hi:i<n)=>HS i (by omega)⟩:Ao.small ⟨a,n,cap,f⟩)⟩,rfl⟩
theorem Pq(b:Int)(c:Al)(left:Int)(w:World)(hc:c.at w)(h0:0<=left)(h1:left<=1048576):
 Calls prog 17 #[.agg #[.int .i64 b,c.val],.int .i64 left] w fun e w'=>∃r:Int,e= .returned (.int .i64 r)/\(r= -1∨(0<=r/\r<=left/\c.n<=1048576))/\Below w w w':=
 (FG b c.a c.n c.k left w hc.1 h0 h1).mono fun _ _ ⟨he,hb⟩=>⟨_,he,Gi c.n left h0 h1,hb⟩
theorem SV(c:Av)(left:Int)(w:World)(hc:c.at w)(h0:0<=left)(h1:left<=1048576):
 Calls prog 76 #[c.val,.int .i64 left] w fun e w'=>∃r:Int,e= .returned (.int .i64 r)/\(r= -1∨(0<=r/\r<=left/\c.n<=1048576))/\w'=w:=
 (JL c.a c.n c.k left w hc.1 h0 h1).mono fun _ _ ⟨he,hb⟩=>⟨_,he,Gi c.n left h0 h1,hb⟩
theorem Ah.jE{W:World}{P t:Nat}{x0 x1 x2 x3 x4 x5 x6 x7 x8 x9:Value}(h:Ah W P (.cells #[x0,x1,x2,x3,x4,x5,x6,x7,x8,x9] t)):W.cell? ⟨P,0,none⟩=some x0/\W.cell? ⟨P,1,none⟩=some x1/\W.cell? ⟨P,2,none⟩=some x2/\W.cell? ⟨P,3,none⟩=some x3/\W.cell? ⟨P,4,none⟩=some x4/\W.cell? ⟨P,5,none⟩=some x5/\W.cell? ⟨P,6,none⟩=some x6/\W.cell? ⟨P,7,none⟩=some x7/\W.cell? ⟨P,8,none⟩=some x8/\W.cell? ⟨P,9,none⟩=some x9:=by
 unfold Ah at h;simp[World.cell?,h]
def Ab.cells(t:Ab):Array Value:=#[t.id,t.kind,t.up,t.b1,t.c1.val,.string t.data,t.jA.val,t.own.val,t.b2,t.c2.val]
theorem Qf(t:Ab)(left:Int)(w:World)(h0:0<=left)(h1:left<=1048576)(ht:t.at w):
 Calls prog 36 #[t.val,.int .i64 left] w fun e w'=>∃r:Int,e= .returned (.int .i64 r)/\(r= -1∨(0<=r/\r<=left/\t.small))/\Below w w w':=by
 have n5:No (.cells #[t.id,t.kind,t.up,t.b1,t.c1.val,.string t.data,t.jA.val,t.own.val,t.b2,t.c2.val] 82):=⟨⟩;have hb0:=(Below.refl _ w).alloc (Nat.le_refl _) n5;have A0:=Ah.new w n5;have hdz:=ht.2.2.2.2;unfold maxLen at hdz;have T0:=hid (ht.below hb0);unfold Ab.val;obtain⟨x0,x1,x2,x3,x4,x5,x6,x7,x8,x9⟩:=A0.jE;clear ht;go_enter func36,ntmps36
 go_wp2_with fail
 refine(Pq _ t.c1 _ _ T0.out.1 h0 h1).mono ?_;rintro e w1 ⟨r1,rfl,hr1,hb1⟩;have A1:=A0.below hb1;have T1:=hid (T0.out.below hb1);have B1:=Ae hb0 hb1;clear x0 x1 x2 x3 x4 x5 x6 x7 x8 x9 A0 T0 hb0 hb1;obtain⟨x0,x1,x2,x3,x4,x5,x6,x7,x8,x9⟩:=A1.jE;rcases hr1 with rfl|⟨u1,v1,s1⟩
 ·go_wp2;go_ret;exact⟨_,rfl,.inl rfl,B1⟩
 have n1:¬r1<0:=by omega
 have d1:IntKind.i64.wrap (r1-(t.data.size:Int))=r1-(t.data.size:Int):=by rw[IntKind.wrap_i64];omega
 by_cases hneg:r1-(t.data.size:Int)<0
 ·go_wp2;go_ret;exact⟨_,rfl,.inl rfl,B1⟩
 go_wp2_with fail
 refine(N0 t.jA _ _ (by omega) (by omega) T1.out.2.1).mono ?_;rintro e w2 ⟨r2,rfl,hr2,rfl⟩;rcases hr2 with rfl|⟨u2,v2,s2⟩
 ·go_wp2;go_ret;exact⟨_,rfl,.inl rfl,B1⟩
 have n2:¬r2<0:=by omega
 go_wp2_with fail
 refine(SV t.own _ _ T1.out.2.2.1 u2 (by omega)).mono ?_;rintro e w3 ⟨r3,rfl,hr3,rfl⟩;rcases hr3 with rfl|⟨u3,v3,s3⟩
 ·go_wp2;go_ret;exact⟨_,rfl,.inl rfl,B1⟩
 have n3:¬r3<0:=by omega
 go_wp2_with fail
 refine(Pq _ t.c2 _ _ T1.out.2.2.2.1 u3 (by omega)).mono ?_;rintro e w4 ⟨r4,rfl,hr4,hb4⟩;have B4:=Ae B1 hb4;clear x0 x1 x2 x3 x4 x5 x6 x7 x8 x9 A1 hb4;rcases hr4 with rfl|⟨u4,v4,s4⟩
 ·go_wp2;go_ret;exact⟨_,rfl,.inl rfl,B4⟩
 have n4:¬r4<0:=by omega
 have sm:t.small:=⟨s1,by omega,s2,s3,s4⟩;clear s2;go_wp2;go_ret;exact⟨_,rfl,.inr ⟨u4,by omega,sm⟩,B4⟩
theorem NH(a:Option Addr)(n cap:Nat)(T:Nat->Ab)(left:Int)(w:World)(hn:n<=maxLen)(h0:0<=left)(h1:left<=1048576)(hT:Et w a n T):
 Calls prog 16 #[.slice a n cap,.int .i64 left] w fun e w'=>∃r:Int,e= .returned (.int .i64 r)/\(r= -1∨(0<=r/\r<=left/\n<=1048576/\∀i,i<n->(T i).small))/\Below w w w':=by
 unfold maxLen at hn;have HT:=hid hT;clear hT;by_cases hbig:left<n
 ·have d1:IntKind.i64.wrap (left-(n:Int))=left-(n:Int):=by rw[IntKind.wrap_i64];omega
  have d2:left-(n:Int)<0:=by omega
  go_enter func16,ntmps16
  go_wp2;go_ret;exact⟨_,rfl,.inl rfl,Below.refl _ _⟩
 ·have d1:IntKind.i64.wrap (left-(n:Int))=left-(n:Int):=by rw[IntKind.wrap_i64];omega
  have d2:¬left-(n:Int)<0:=by omega
  have hn2:n<=1048576:=by omega
  go_enter func16,ntmps16
  go_wp2;go_loopw [1,5] (fun l i wr=>∃(k:Nat) (m:Int),k<=n/\i= .int .i64 k/\l= .int .i64 m/\0<=m/\m<=left/\Hid (∀j,j<k->(T j).small)/\Below w w wr) (fun _ i _=>n-(intOf i).toNat)
  case atStart=>exact⟨0,_,by omega,rfl,rfl,by omega,by omega,hid (fun j hj=>by omega),Below.refl _ _⟩
  case round=>
   obtain⟨k,m,hk,rfl,rfl,m0,m1,HS,hB⟩:=hrel;by_cases hlt:k<n
   ·obtain⟨b,off,rfl,hlt0,hc⟩:=HT.out.below hB (by omega);obtain⟨q,ht⟩:=hc k hlt;obtain⟨q0,q1,q2,q3,q4,q5,q6,q7,q8,q9⟩:=q;have i1:(k:Int)<(n:Int):=(by omega);have SZ:=hid (Qf (T k) m wr m0 (by omega) ht);unfold Ab.val at SZ;clear hc ht hlt0;go_wp2_with fail
    refine SZ.out.mono ?_;rintro e w2 ⟨r,rfl,hr,hb2⟩;have B2:=Ae hB hb2;clear q0 q1 q2 q3 q4 q5 q6 q7 q8 q9 SZ hb2;rcases hr with rfl|⟨r0,r1,sm⟩
    ·go_wp2;go_ret;exact⟨_,rfl,.inl rfl,B2⟩
    ·have r2:¬r<0:=(by omega);have HS2:Hid (∀j,j<k+1->(T j).small):=hid (fun j hj=>by
      by_cases e:j=k
      ·subst e;exact sm
      ·exact HS.out j (by omega))
     go_wp2;exact⟨⟨k+1,r,by omega,by go_num,rfl,r0,by omega,HS2,B2⟩,by simp[intOf];omega⟩
   ·go_wp2;go_ret;exact⟨_,rfl,.inr ⟨m0,by omega,hn2,fun i hi=>HS i (by omega)⟩,hB⟩
structure Ar where
 ta:Option Addr
 tn:Nat
 tk:Nat
 T:Nat->Ac
 oa:Option Addr
 on:Nat
 ok:Nat
 O:Nat->Ab
def Ar.val(k:Ar):Value:= .agg #[.slice k.ta k.tn k.tk,.slice k.oa k.on k.ok]
def Ar.at(w:World)(k:Ar):Prop:=k.tn<=maxLen/\k.on<=maxLen/\E9 w k.ta k.tn k.T/\Et w k.oa k.on k.O
theorem Ar.at.below{w w':World}{k:Ar}(h:k.at w)(hb:Below w w w'):k.at w':=⟨h.1,h.2.1,h.2.2.1.below hb,h.2.2.2.below hb⟩
def Ar.small(k:Ar):Prop:=(k.tn<=1048576/\∀i,i<k.tn->(k.T i).small)/\(k.on<=1048576/\∀i,i<k.on->(k.O i).small)
theorem Qm(k:Ar)(left:Int)(w:World)(h0:0<=left)(h1:left<=1048576)(hk:k.at w):
 Calls prog 4 #[k.val,.int .i64 left] w fun e w'=>∃r:Int,e= .returned (.int .i64 r)/\(r= -1∨(0<=r/\r<=left/\k.small))/\Below w w w':=by
 have n3:No (.cells #[.slice k.ta k.tn k.tk,.slice k.oa k.on k.ok] 25):=⟨⟩;have hb0:=(Below.refl _ w).alloc (Nat.le_refl _) n3;have A0:=Ah.new w n3;have T0:=hid (hk.below hb0);unfold Ar.val;obtain⟨x0,x1⟩:=A0.two;clear hk;go_enter func4,ntmps4
 go_wp2_with fail
 refine(Og _ _ _ k.T _ _ T0.out.1 h0 h1 T0.out.2.2.1).mono ?_;rintro e w1 ⟨r1,rfl,hr1,hb1⟩;have A1:=A0.below hb1;have T1:=hid (T0.out.below hb1);have B1:=Ae hb0 hb1;clear x0 x1 A0 T0 hb0 hb1;obtain⟨x0,x1⟩:=A1.two;rcases hr1 with rfl|⟨u1,v1,s1⟩
 ·go_wp2;go_ret;exact⟨_,rfl,.inl rfl,B1⟩
 have S1:=hid s1;clear s1;have n1:¬r1<0:=by omega
 go_wp2_with fail
 refine(NH _ _ _ k.O _ _ T1.out.2.1 u1 (by omega) T1.out.2.2.2).mono ?_;rintro e w2 ⟨r2,rfl,hr2,hb2⟩;have B2:=Ae B1 hb2;clear x0 x1 A1 hb2;rcases hr2 with rfl|⟨u2,v2,s2⟩
 ·go_wp2;go_ret;exact⟨_,rfl,.inl rfl,B2⟩
 have sm:Hid k.small:=hid ⟨S1,s2⟩;clear s2;have n2:¬r2<0:=by omega
 go_wp2;go_ret;exact⟨_,rfl,.inr ⟨u2,by omega,sm⟩,B2⟩
def Eu(b:UInt8):Bool:=decide (32<=b.toNat)&&decide (b.toNat<=126)
def Bp(s:ByteArray)(most:Int):Bool:=s.data.toList.all Eu&&decide ((s.size:Int)<=most)
theorem JF{s:ByteArray}{most:Int}{k:Nat}(h:k<s.size)(hb:Eu s[k]=false):Bp s most=false:=by
 have:s.data.toList.all Eu=false:=by
  rw[List.all_eq_false];exact⟨s[k],Array.getElem_mem_toList h,by simp[hb]⟩
 simp[Bp,this]
theorem Pz{s:ByteArray}{most:Int}(h:∀(k:Nat) (hk:k<s.size),Eu s[k]=true):Bp s most=decide ((s.size:Int)<=most):=by
 have:s.data.toList.all Eu=true:=by
  rw[List.all_eq_true];intro b hb;obtain⟨k,hk,rfl⟩:=List.getElem_of_mem hb;have hk':k<s.size:=by simpa using hk
  have:=h k hk';have e:s[k]=s.data.toList[k]:=rfl;rw[e]at this;exact this
 simp[Bp,this]
theorem IL{b:UInt8}(h:(b.toNat:Int)<32):Eu b=false:=by
 have:¬32<=b.toNat:=by omega
 simp[Eu,this]
theorem Pg{b:UInt8}(h:126<(b.toNat:Int)):Eu b=false:=by
 have:¬b.toNat<=126:=by omega
 simp[Eu,this]
theorem Mz{b:UInt8}(h1:32<=(b.toNat:Int))(h2:(b.toNat:Int)<=126):Eu b=true:=by
 have e1:32<=b.toNat:=by omega
 have e2:b.toNat<=126:=by omega
 simp[Eu,e1,e2]
theorem Iv(s:ByteArray)(most:Int)(w:World)(hn:s.size<=maxLen):
 Calls prog 80 #[.string s,.int .i64 most] w fun e w'=>e= .returned (.bool (Bp s most))/\w'=w:=by
 unfold maxLen at hn;go_enter func80,ntmps80
 go_wp2;go_loop [5] (fun i=>∃k:Nat,k<=s.size/\i= .int .i64 k/\(∀(j:Nat) (hj:j<s.size),j<k->Eu s[j]=true)) (fun i=>s.size-(intOf i).toNat)
 case atStart=>exact⟨0,Nat.zero_le _,rfl,fun j _ hj=>by omega⟩
 case round=>
  obtain⟨k,hk,rfl,hall⟩:=hrel;have HA:Hid (∀(j:Nat) (hj:j<s.size),j<k->Eu s[j]=true):=hall;clear hall;by_cases hlt:k<s.size
  ·have hki:(k:Int)<(s.size:Int):=(by omega);go_wp2
   ·go_ret;rename_i h1 h2 _;refine⟨Ag (JF hlt ?_).symm,rfl⟩;rcases h2 with h2|h2
    ·exact IL h2
    ·exact Pg h2
   ·rename_i h1 h2;go_round;case rel=>
     refine⟨k+1,by omega,by go_num,fun j hj hjk=>?_⟩;by_cases e:j=k
     ·subst e;exact Mz h2.1 h2.2
     ·exact HA.out j hj (by omega)
    case measure=>simp[intOf];omega
   ·go_ret;rename_i h1;exact⟨Ag (JF hlt (IL h1)).symm,rfl⟩
  ·have hki:¬(k:Int)<(s.size:Int):=(by omega);go_wp2;go_ret;exact⟨Ag (Pz (fun j hj=>HA j hj (by omega))).symm,rfl⟩
theorem bytesWorld_below(w:World)(e:TypeId)(s:ByteArray):Below w w (Lib.bytesWorld w e s):=
 ⟨rfl,rfl,rfl,by rw[Lib.bytesWorld_size];omega,fun k hk=>Lib.bytesWorld_at_old w e s k hk⟩
theorem Jg(s:ByteArray)(w:World)(hn:s.size<=maxLen):
 Calls prog 105 #[.string s] w fun e w'=>e= .returned (.bool (Bp s 40))/\Below w w w':=by
 unfold maxLen at hn;by_cases h40:40<s.size
 ·have h40':(40:Int)<(s.size:Int):=by omega
  go_enter func105,ntmps105
  go_wp2;go_ret;have:¬(s.size:Int)<=40:=by omega
  exact⟨Ag (by simp[Bp,this]),Below.refl _ _⟩
 ·have h40':(s.size:Int)<=40:=by omega
  have kc:=fun(w:World) (s:ByteArray)=>Lib.run_convert_string_bytes (P:=prog) w 9 182 5 s underlying9 underlying182 underlying5;go_enter func105,ntmps105
  go_wp2_with fail
  have hB:=bytesWorld_below w 5 s;have hcell:∀(j:Nat) (hj:j<s.size),(Lib.bytesWorld w 5 s).cell? ⟨w,j,none⟩=some (.int .u8 (s[j].toNat:Int)):=fun j hj=>by
   rw[Lib.bytesWorld_cell w 5 s j hj];have e:s.data.toList.getD j 0=s[j]:=by
    have hj':j<s.data.toList.length:=(by simpa using hj);rw[List.getD_eq_getElem?_getD,List.getElem?_eq_getElem hj'];rfl
   rw[e]
  generalize Lib.bytesWorld w 5 s=W at *;generalize grownCap w s.size 0 5=cp at *;go_loop [11] (fun i=>∃k:Nat,k<=s.size/\i= .int .i64 k/\(∀(j:Nat) (hj:j<s.size),j<k->Eu s[j]=true)) (fun i=>s.size-(intOf i).toNat)
  case atStart=>exact⟨0,Nat.zero_le _,rfl,fun j _ hj=>by omega⟩
  case round=>
   obtain⟨k,hk,rfl,hall⟩:=hrel;have HA:Hid (∀(j:Nat) (hj:j<s.size),j<k->Eu s[j]=true):=hall;clear hall;by_cases hlt:k<s.size
   ·have hki:(k:Int)<(s.size:Int):=(by omega);have hc:=hcell k hlt;clear hcell;go_wp2
    ·go_ret;rename_i h1 h2 _;refine⟨Ag (JF hlt ?_).symm,hB⟩;rcases h2 with h2|h2
     ·exact IL h2
     ·exact Pg h2
    ·rename_i h1 h2;go_round;case rel=>
      refine⟨k+1,by omega,by go_num,fun j hj hjk=>?_⟩;by_cases e:j=k
      ·subst e;exact Mz h2.1 h2.2
      ·exact HA.out j hj (by omega)
     case measure=>simp[intOf];omega
    ·go_ret;rename_i h1;exact⟨Ag (JF hlt (IL h1)).symm,hB⟩
   ·have hki:¬(k:Int)<(s.size:Int):=(by omega);clear hcell;go_wp2;go_ret;exact⟨Ag (by rw[Pz (fun j hj=>HA.out j hj (by omega))];simpa using h40'),hB⟩
def Dc(base:Int)(n:Nat):Bool:=(base==0)&&(n==0)
def Zr(kind:Int):Bool:=kind==2||kind==3||kind==4||kind==5||kind==6||kind==7||kind==8||kind==9||kind==10||kind==11||kind==13||kind==15
def aE(kind:Int):Bool:=kind==8
def Rb(kind:Int):Bool:=kind==5||kind==14
def PM(kind:Int):Bool:=kind==6||kind==9
def Ke(kind:Int):Bool:=kind==2||kind==3||kind==4||kind==5||kind==12
def Ii(kind:Int):Bool:=kind==5
def ZD(kind:Int):Bool:=kind==1||kind==2||kind==3||kind==4||kind==5||kind==6||kind==7||kind==8||kind==9||kind==10||kind==11||kind==12||kind==13||kind==14||kind==15
def Lr(n:Int)(used:Bool):Bool:=if used then Dv n 1 9030 else n==0
def Mr(kind cat:Int)(used:Bool):Bool:=if cat==0 then kind != 14 else used&&Dv cat 1 9999
theorem Ja(base:Int)(a:Option Addr)(n cap:Nat)(w:World)(hn:n<=maxLen):
 Calls prog 104 #[.agg #[.int .i64 base,.slice a n cap]] w fun e w'=>e= .returned (.bool (Dc base n))/\Below w w w':=by
 unfold maxLen at hn;have hb0:=(Below.refl _ w).alloc (Nat.le_refl _) (.cells #[.int .i64 base,.slice a n cap] 42);cases t:(base==0)with
 |true=>
  go_enter func104,ntmps104
  go_wp2;go_ret;refine⟨Ag ?_,hb0⟩;unfold Dc;rw[t,Bool.true_and];by_cases e:n=0
  ·subst e;rfl
  ·have e1:(n==0)=false:=(by simpa using e);rw[e1];simp;omega
 |false=>
  go_enter func104,ntmps104
  go_wp2;go_ret;exact⟨Ag (by simp[Dc,t]),hb0⟩
end Go.Proofs.YtmikapeeflcbfaaGreatDoor
