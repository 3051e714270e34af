import Derived.Test.YtphddbnadcjhgaaGreatDoorZ1
set_option maxRecDepth 100000
set_option maxHeartbeats 4000000
namespace Go.Proofs.YtphddbnadcjhgaaGreatDoor
open Go.RowKit Go.Deep Go.Proofs.Tryz
theorem Se(b:Int)(c:Av)(w:World)(hc:c.at w):
 Calls prog 80 #[.agg #[.int .i64 b,c.val]] w fun e w'=>e= .returned (.bool (AH b c.n c.f c.g))/\Below w w w':=Gj b c.a c.n c.k c.f c.g w hc.1 hc.2
theorem Zf(c:AI)(w:World)(hc:c.at w):
 Calls prog 81 #[c.val] w fun e w'=>e= .returned (.bool (Bu c.n c.h))/\Below w w w':=Nn c.a c.n c.k c.h w hc.1 hc.2
theorem Qo(t:Ab)(w:World)(ht:t.at w):
 Calls prog 46 #[t.val] w fun e w'=>e= .returned (.bool (BZ t))/\Below w w w':=by
 have n1:No (.cells #[t.id,t.kind,t.up,t.b1,t.c1.val,.string t.data,t.items.val,t.own.val,t.b2,t.c2.val] 40):=⟨⟩;have hb0:=(Below.refl _ w).alloc (Nat.le_refl _) n1;have A0:=Ah.new w n1;have T0:=hid (ht.below hb0);unfold Ab.val;obtain⟨x0,x1,x2,x3,x4,x5,x6,x7,x8,x9⟩:=A0.ten;clear ht;go_enter func46,ntmps46
 go_wp2_with fail
 refine(Se _ t.c1 _ T0.out.1).mono ?_;rintro e w1 ⟨rfl,hb1⟩;have A1:=A0.below hb1;have T1:=hid (T0.out.below hb1);have B1:=Af hb0 hb1;clear x0 x1 x2 x3 x4 x5 x6 x7 x8 x9 A0 T0 hb0 hb1;obtain⟨x0,x1,x2,x3,x4,x5,x6,x7,x8,x9⟩:=A1.ten;cases t1:AH t.b1 t.c1.n t.c1.f t.c1.g with
 |false=>
  go_wp2;go_ret;exact⟨Ag (by simp[BZ,t1]),B1⟩
 |true=>
 go_wp2_with fail
 refine(Se _ t.c2 _ T1.out.2.2.2.1).mono ?_;rintro e w2 ⟨rfl,hb2⟩;have A2:=A1.below hb2;have T2:=hid (T1.out.below hb2);have B2:=Af B1 hb2;clear x0 x1 x2 x3 x4 x5 x6 x7 x8 x9 A1 T1 B1 hb2;obtain⟨x0,x1,x2,x3,x4,x5,x6,x7,x8,x9⟩:=A2.ten;cases t2:AH t.b2 t.c2.n t.c2.f t.c2.g with
 |false=>
  go_wp2;go_ret;exact⟨Ag (by simp[BZ,t2]),B2⟩
 |true=>
 go_wp2_with fail
 refine(Zf t.own _ T2.out.2.2.1).mono ?_;rintro e w3 ⟨rfl,hb3⟩;have A3:=A2.below hb3;have T3:=hid (T2.out.below hb3);have B3:=Af B2 hb3;clear x0 x1 x2 x3 x4 x5 x6 x7 x8 x9 A2 T2 B2 hb3;obtain⟨x0,x1,x2,x3,x4,x5,x6,x7,x8,x9⟩:=A3.ten;cases t3:Bu t.own.n t.own.h with
 |false=>
  go_wp2;go_ret;exact⟨Ag (by simp[BZ,t3]),B3⟩
 |true=>
 unfold As.val at x6;have hn5:=T3.out.2.1.1;unfold maxLen at hn5;by_cases h8:8<t.items.n
 ·have h8':(8:Int)<(t.items.n:Int):=by omega
  go_wp2;go_ret;exact⟨Ag (by simp[BZ,Ng h8]),B3⟩
 have h8':¬(8:Int)<(t.items.n:Int):=by omega
 go_wp2_with fail
 refine(Iu t.data _ _ T3.out.2.2.2.2).mono ?_;rintro e w4 ⟨rfl,rfl⟩;cases t4:Bm t.data 40 with
 |false=>
  go_wp2;go_ret;exact⟨Ag (by simp[BZ,t4]),B3⟩
 |true=>
 have OK:Hid (Dt t.items.n t.items.f=true->BZ t=Gm t):=hid (fun t5=>by simp[BZ,t1,t2,t3,t4,t5]);clear t1 t2 t3 t4;go_wp2;go_loop [3] (fun i=>∃k:Nat,k<=t.items.n/\i= .int .i64 k/\Hid (∀j,j<k->Bm (t.items.f j) 40=true)) (fun i=>t.items.n-(intOf i).toNat)
 case atStart=>exact⟨0,Nat.zero_le _,rfl,hid (fun j hj=>by omega)⟩
 case round=>
  obtain⟨k,hk,rfl,HA⟩:=hrel;by_cases hlt:k<t.items.n
  ·obtain⟨b,off,ea,hlt0,hcc⟩:=T3.out.2.1.2.1 (by omega);rw[ea]at x6;have g1:=hcc k hlt;have z:=T3.out.2.1.2.2 k hlt;have i1:(k:Int)<(t.items.n:Int):=(by omega);clear hcc ea;go_wp2_with fail
   refine(Iu _ _ _ z).mono ?_;rintro e w5 ⟨rfl,rfl⟩;clear g1;by_cases t5:Bm (t.items.f k) 40=true
   ·have HA2:Hid (∀j,j<k+1->Bm (t.items.f j) 40=true):=hid (fun j hj=>by
     by_cases e:j=k
     ·subst e;exact t5
     ·exact HA.out j (by omega))
    go_wp2;exact⟨⟨k+1,by omega,by go_num,HA2⟩,by simp[intOf];omega⟩
   ·have t':Bm (t.items.f k) 40=false:=(by simpa using t5);clear t5;go_wp2;go_ret;exact⟨Ag (by simp[BZ,Ot hlt t']),B3⟩
  ·have e:k=t.items.n:=(by omega);have OK2:=hid (OK.out (by rw[MA (by rw[<-e];exact HA.out)];simp;omega));clear e OK HA;unfold AI.val at x7;unfold Av.val at x9;have hn6:=T3.out.2.2.1.1;have hn7:=T3.out.2.2.2.1.1;unfold maxLen at hn6 hn7;go_wp2;all_goals
    go_ret;refine⟨Ag ?_,by assumption⟩;rw[OK2.out];clear OK2 h8' x0 x1 x2 x3 x4 x5 x6 x7 x8 x9;first
    |(simp_all[Gm,Dd,Zr];done)
    |(simp_all[Gm,Dd];exact Zr _)
end Go.Proofs.YtphddbnadcjhgaaGreatDoor
