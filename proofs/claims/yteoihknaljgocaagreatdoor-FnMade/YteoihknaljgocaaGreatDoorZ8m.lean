import Derived.WalkSmall
import Derived.Test.YteoihknaljgocaaGreatDoorZ7m
set_option maxRecDepth 100000
set_option maxHeartbeats 4000000
namespace Go.Proofs.YteoihknaljgocaaGreatDoor
open Go Go.RowKit Go.Deep Go.Maps Go.BigFrame Go.Shelf Go.Proofs.Tryz
theorem TE(cap:Nat)(x:Int)(w:World):
 Calls prog 101 #[.slice none 0 cap,.int .i64 x] w fun e w'=>∃va vc,e= .returned (.slice va 1 vc)/\Ay w' w (.slice va 1 vc) [x]/\Below w w w':=by
 have E0:Below w w (w.alloc (.cells #[] 2)):=Bf w _;have O0:=Ay.made w w nr;go_enter func101,ntmps101
 go_wp2;go_loopw [5] (fun i wr=>i= .int .i64 0/\wr=w) (fun i _=>(intOf i).toNat)
 case atStart=>exact⟨rfl,rfl⟩
 case round=>
  obtain⟨rfl,rfl⟩:=hrel;go_wp2_with(first
   |(at_builtin;have hq:=hown2;clear hq;refine AZ _ rfl _ _ rfl wr (.slice a2 1 c2) [x] rfl hown2 _ _ _ [] rfl rfl (DD.none _ _) [x] rfl (by simp) E2.size ?_;intro a3 c3 w3 hown3 hgrow3 hat3)
   |(at_builtin;have hq:=hown1;clear hq;refine AZ _ rfl _ _ rfl wr (.slice a1 0 c1) [] rfl (hown1.alloc _) _ _ _ [x] rfl rfl (DD.one x) [x] rfl (by simp) (Nat.le_trans E1.size (by simp)) ?_;intro a2 c2 w2 hown2 hgrow2 hat2;have E2:Below wr wr w2:=(E1.alloc E1.size _).grown hgrow2 (Nat.le_trans E1.size (by simp)) (fun j e=>(World.ownsRow.lt hown1 j e).1))
   |(at_builtin;refine AZ _ rfl _ _ rfl wr (.slice (some ⟨wr,0,none⟩) 0 0) [] rfl O0 _ _ _ [] rfl rfl (DD.none _ _) [] rfl (by simp) (by simp) ?_;intro a1 c1 w1 hown1 hgrow1 hat1;have E1:Below wr wr w1:=E0.grown hgrow1 (by simp) (fun j e=>by cases e;exact Nat.le_refl _)))
  go_ret;exact⟨_,_,rfl,hown3,E2.grown hgrow3 E2.size (fun j e=>(World.ownsRow.lt hown2 j e).1)⟩
theorem Qe(c:AJ)(x:Int)(w:World)(hc:c.at w)(hn:c.n<=1048576)(hcap:c.n<=c.k/\c.k<=maxLen):
 Calls prog 101 #[c,.int .i64 x] w fun e w'=>∃va vc,e= .returned (.slice va (DT ((List.range c.n).map c.h) x).length vc)/\Ay w' w (.slice va (DT ((List.range c.n).map c.h) x).length vc) (DT ((List.range c.n).map c.h) x)/\Below w w w':=by
 have el:((List.range c.n).map c.h).length=c.n:=by simp
 cases ha:c.a with
 |some A=>
  have hi:=hc.2.intL;rw[ha]at hi;have h:=Pv A c.k ((List.range c.n).map c.h) x w (by rw[el];exact hn) (by rw[el];exact hcap.1) hcap.2 hi;rw[el]at h;exact h
 |none=>
  have h0:c.n=0:=by
   by_cases e:0<c.n
   ·obtain⟨b,off,e',_⟩:=hc.2 e;rw[ha]at e';cases e'
   ·omega
  rw[h0];exact TE c.k x w
def Db(n:Nat):List UInt8:=if h:n<10 then[UInt8.ofNat (48+n)]else Db (n/10)++[UInt8.ofNat (48+n%10)]
termination_by n
decreasing_by omega
theorem Iy{n:Nat}(h:n<10):Db n=[UInt8.ofNat (48+n)]:=by rw[Db,dif_pos h]
theorem Kp{n:Nat}(h:¬n<10):Db n=Db (n/10)++[UInt8.ofNat (48+n%10)]:=by rw[Db,dif_neg h]
def Zh(c:Int×Int):List UInt8:=44::(Db c.1.toNat++58::Db c.2.toNat)
def cG(base:Int)(cats:List (Int×Int)):List UInt8:=Db base.toNat++(cats.map Zh).flatten

theorem IX(n:Nat):(Db n).length<=n+1:=by
 induction n using Nat.strongRecOn with
 |_ n ih=>
  by_cases h:n<10
  ·rw[Iy h];simp
  ·rw[Kp h,List.length_append];have:=ih (n/10) (by omega);simp;omega
theorem Lf(n:Nat)(w:World)(hn:n<=10000000000):
 Calls prog 102 #[.int .i64 n] w fun e w'=>e= .returned (.string ⟨(Db n).toArray⟩)/\Below w w w':=by
 have hlen:=IX n;go_enter func102,ntmps102
 go_wp2;go_loopw [0,3] (fun x s wr=>∃(k:Nat) (l:List UInt8),k<=n/\x= .int .i64 k/\s= .string ⟨l.toArray⟩/\Db n=Db k++l/\Below w w wr) (fun x _ _=>(intOf x).toNat)
 case atStart=>exact⟨n,[],Nat.le_refl _,rfl,rfl,by simp,Below.refl _ _⟩
 case round=>
  obtain⟨k,l,hk,rfl,rfl,hd,hB⟩:=hrel;have hl:l.length<=10000000001:=by
   have:=congrArg List.length hd;rw[List.length_append]at this;omega
  have HD:Hid (Db n=Db k++l):=hd;clear hd;by_cases h10:k<10
  ·have h10':¬(10:Int)<=(k:Int):=(by omega);obtain⟨b,hb⟩:∃b,b=UInt8.ofNat (48+(k:Int)).toNat:=⟨_,rfl⟩;have ob:=fun(w:World)=>one_byte w (48+(k:Int)) (by omega) (by omega);rw[<-hb]at ob;have HB:Hid (b=UInt8.ofNat (48+k)):=hb;clear hb;go_wp2;go_ret;refine⟨?_,hB.alloc hB.size _⟩;rw[II,HD.out,Iy h10,<-HB.out];rfl
  ·have h10':(10:Int)<=(k:Int):=(by omega);obtain⟨b,hb⟩:∃b,b=UInt8.ofNat (48+(k:Int)%10).toNat:=⟨_,rfl⟩;have ob:=fun(w:World)=>one_byte w (48+(k:Int)%10) (by omega) (by omega);rw[<-hb]at ob;have HB:Hid (b=UInt8.ofNat (48+k%10)):=hb;clear hb;go_wp2;go_roundw;case rel=>
    refine⟨k/10,b::l,by omega,by go_num,by rw[II],?_,hB.alloc hB.size _⟩;rw[HD.out,Kp h10,<-HB.out,List.append_assoc];rfl
   case measure=>simp[intOf];omega
theorem Rk(b:Int)(c:Ar)(w:World)(hc:c.at w):
 Calls prog 95 #[.agg #[.int .i64 b,c.val]] w fun e w'=>e= .returned (.bool (Bb b c.n c.f c.g))/\Below w w w':=GV b c.a c.n c.k c.f c.g w hc.1 hc.2
theorem aj(c:AJ)(w:World)(hc:c.at w):
 Calls prog 96 #[c.val] w fun e w'=>e= .returned (.bool (Ci c.n c.h))/\Below w w w':=M7 c.a c.n c.k c.h w hc.1 hc.2
theorem Qw(t:Ab)(w:World)(ht:t.at w):
 Calls prog 54 #[t.val] w fun e w'=>e= .returned (.bool (CS t))/\Below w w w':=by
 have n1:No (.cells #[t.id,t.kind,t.up,t.b1,t.c1.val,.string t.data,t.jA.val,t.own.val,t.b2,t.c2.val] 44):=⟨⟩;have hb0:=(Below.refl _ w).alloc nr n1;have A0:=Ag.new w n1;have T0:=hid (ht.below hb0);unfold Ab.val;obtain⟨x0,x1,x2,x3,x4,x5,x6,x7,x8,x9⟩:=A0.jE;clear ht;go_enter func54,ntmps54
 go_wp2_with fail
 refine(Rk _ t.c1 _ T0.out.1).mono ?_;rintro e w1 ⟨rfl,hb1⟩;have A1:=A0.below hb1;have T1:=hid (T0.out.below hb1);have B1:=Af hb0 hb1;clear x0 x1 x2 x3 x4 x5 x6 x7 x8 x9 A0 T0 hb0 hb1;obtain⟨x0,x1,x2,x3,x4,x5,x6,x7,x8,x9⟩:=A1.jE;cases t1:Bb t.b1 t.c1.n t.c1.f t.c1.g with
 |false=>
  go_wp2;go_ret;exact⟨Ah (by simp[CS,t1]),B1⟩
 |true=>
 go_wp2_with fail
 refine(Rk _ t.c2 _ T1.out.2.2.2.1).mono ?_;rintro e w2 ⟨rfl,hb2⟩;have A2:=A1.below hb2;have T2:=hid (T1.out.below hb2);have B2:=Af B1 hb2;clear x0 x1 x2 x3 x4 x5 x6 x7 x8 x9 A1 T1 B1 hb2;obtain⟨x0,x1,x2,x3,x4,x5,x6,x7,x8,x9⟩:=A2.jE;cases t2:Bb t.b2 t.c2.n t.c2.f t.c2.g with
 |false=>
  go_wp2;go_ret;exact⟨Ah (by simp[CS,t2]),B2⟩
 |true=>
 go_wp2_with fail
 refine(aj t.own _ T2.out.2.2.1).mono ?_;rintro e w3 ⟨rfl,hb3⟩;have A3:=A2.below hb3;have T3:=hid (T2.out.below hb3);have B3:=Af B2 hb3;clear x0 x1 x2 x3 x4 x5 x6 x7 x8 x9 A2 T2 B2 hb3;obtain⟨x0,x1,x2,x3,x4,x5,x6,x7,x8,x9⟩:=A3.jE;cases t3:Ci t.own.n t.own.h with
 |false=>
  go_wp2;go_ret;exact⟨Ah (by simp[CS,t3]),B3⟩
 |true=>
 unfold AH.val at x6;have hn5:=T3.out.2.1.1;unfold maxLen at hn5;by_cases h8:8<t.jA.n
 ·have h8':(8:Int)<(t.jA.n:Int):=by omega
  go_wp2;go_ret;exact⟨Ah (by simp[CS,Nc h8]),B3⟩
 have h8':¬(8:Int)<(t.jA.n:Int):=by omega
 go_wp2_with fail
 refine(Jm t.data _ _ T3.out.2.2.2.2).mono ?_;rintro e w4 ⟨rfl,rfl⟩;cases t4:BI t.data 40 with
 |false=>
  go_wp2;go_ret;exact⟨Ah (by simp[CS,t4]),B3⟩
 |true=>
 have OK:Hid (Ey t.jA.n t.jA.f=true->CS t=Hl t):=hid (fun t5=>by simp[CS,t1,t2,t3,t4,t5]);clear t1 t2 t3 t4;go_wp2;go_loop [3] (fun i=>∃k:Nat,k<=t.jA.n/\i= .int .i64 k/\Hid (∀j,j<k->BI (t.jA.f j) 40=true)) (fun i=>t.jA.n-(intOf i).toNat)
 case atStart=>exact⟨0,Nat.zero_le _,rfl,hid (fun j hj=>by omega)⟩
 case round=>
  obtain⟨k,hk,rfl,HA⟩:=hrel;by_cases hlt:k<t.jA.n
  ·obtain⟨b,off,ea,hlt0,hcc⟩:=T3.out.2.1.2.1 (by omega);rw[ea]at x6;have g1:=hcc k hlt;have z:=T3.out.2.1.2.2 k hlt;have i1:(k:Int)<(t.jA.n:Int):=(by omega);clear hcc ea;go_wp2_with fail
   refine(Jm _ _ _ z).mono ?_;rintro e w5 ⟨rfl,rfl⟩;clear g1;by_cases t5:BI (t.jA.f k) 40=true
   ·have HA2:Hid (∀j,j<k+1->BI (t.jA.f j) 40=true):=hid (fun j hj=>by
     by_cases e:j=k
     ·subst e;exact t5
     ·exact HA.out j (by omega))
    go_wp2;exact⟨⟨k+1,by omega,by go_num,HA2⟩,by simp[intOf];omega⟩
   ·have t':BI (t.jA.f k) 40=false:=(by simpa using t5);clear t5;go_wp2;go_ret;exact⟨Ah (by simp[CS,Pw hlt t']),B3⟩
  ·have e:k=t.jA.n:=(by omega);have OK2:=hid (OK.out (by rw[Og (by rw[<-e];exact HA.out)];simp;omega));clear e OK HA;unfold AJ.val at x7;unfold Ar.val at x9;have hn6:=T3.out.2.2.1.1;have hn7:=T3.out.2.2.2.1.1;unfold maxLen at hn6 hn7;go_wp2;all_goals
    go_ret;refine⟨Ah ?_,by assumption⟩;rw[OK2.out];clear OK2 h8' x0 x1 x2 x3 x4 x5 x6 x7 x8 x9;first
    |(simp_all[Hl,Dz,ZF];done)
    |(simp_all[Hl,Dz];exact ZF _)
end Go.Proofs.YteoihknaljgocaaGreatDoor
