import Derived.Test.YtblapfnglojgjaaGreatDoorZ9k
set_option maxRecDepth 100000
set_option maxHeartbeats 8000000
namespace Go.Proofs.YtblapfnglojgjaaGreatDoor
open Go Go.RowKit Go.Deep Go.BigFrame Go.Proofs.Tryz
variable {w:World}{v:Value}
structure Up(w:World) where
 W:World
 h:Below w w W
instance (w:World):Inhabited (Up w):=⟨⟨w,Below.refl _ _⟩⟩
theorem AN{id:Nat}{Q:Exit->Act->World->Prop}{a:Act}{w:World}{l:List Oper}(hm:prog.follows .mixedOrders=true)(hB:Region.lexB .any l.toArray=true)
 (h:wpQuiet prog l.toArray (fun w'=>∃p:Up w,w'=p.W) (fun a'=>∀w',(∃p:Up w,w'=p.W)->Q .normal a' w') l a):(Code.region id l.toArray true).wp prog Q a w:=
 wp_region_quiet (C:=fun w'=>∃p:Up w,w'=p.W) hm hB ⟨⟨w.drew,(Below.refl _ _).drew⟩,rfl⟩ (by simpa using h)
theorem Ir{p:Up w}{f:FuncId}{args:Array Value}(h:Calls prog f args p.W fun e w'=>e= .returned v/\Below p.W.heap.size p.W w'):Calls prog f args p.W fun e w''=>e= .returned v/\∃q:Up w,w''=q.W:=
 h.mono fun _ w' ⟨he,hb⟩=>⟨he,⟨w',Ac p.h hb⟩,rfl⟩
theorem CM{b o:Nat}(hb:b<w.heap.size)(h:w.cell? ⟨b,o,none⟩=some v):∀p:Up w,p.W.cell? ⟨b,o,none⟩=some v:=fun p=>(p.h.cell (p:=⟨b,o,none⟩) hb).trans h
theorem XD(t:Af)(w:World)(ht:t.at w):
 Calls prog 47 #[t.val] w fun e w'=>e= .returned (.bool (Cj t))/\Below w w w':=UL _ _ _ _ _ _ _ _ _ _ _ _ _ _ _ _ _ _ w ht.1.1 ht.2.1.1 ht.2.2.1 ht.1.2 ht.2.1.2 ht.2.2.2
theorem H9{k:AJ}(ht:Br k.tn k.T=true)(h1:1<=k.on)(h2:k.on<=271){q:Nat}(hq:q<k.on)(h:Hu k q=false):AW k=false:=by
 rw[JP ht h1 h2,HJ hq h];rfl
def Ae.blk'(t:Ae):Obj:= .cells t 51
theorem Vw(t:Ae)(w:World)(ht:t.at w):
 Calls prog 48 #[.agg t] w fun e w'=>e= .returned (.bool (Bz t))/\Below w w w':=SC t w ht
theorem MU(k:AJ)(w:World)(hk:k.at w)(hw:∀i,i<k.on->(Lit.int .i64 (k.O i).id).wf=true):
 Calls prog 19 #[k.val] w fun e w'=>e= .returned (.bool (AW k))/\Below w w w':=by
 have n4:No (.cells #[.slice k.ta k.tn k.tk,.slice k.oa k.on k.ok] 27):=⟨⟩;have hb0:=(Below.refl _ w).alloc nr n4;have A0:=Ai.new w n4;have HK:=hid hk;have HW:=hid hw;have m1:=hk.1;have m2:=hk.2.1;unfold maxLen at m1 m2;unfold AJ.val;obtain⟨x0,x1⟩:=A0.two;clear hk hw;by_cases h1:k.tn<1
 ·have h1':(k.tn:Int)<1:=by omega
  go_enter func19,ntmps19
  go_wp2;go_ret;have e:k.tn=0:=by omega
  exact⟨Ag (Hp (by simp[Br,e])).symm,hb0⟩
 have h1':¬(k.tn:Int)<1:=by omega
 by_cases h2:9<k.tn
 ·have h2':(9:Int)<(k.tn:Int):=by omega
  go_enter func19,ntmps19
  go_wp2;go_ret;have:decide (k.tn<=9)=false:=by simp;omega
  exact⟨Ag (Hp (by simp[Br,this])).symm,hb0⟩
 have h2':¬(9:Int)<(k.tn:Int):=by omega
 by_cases h3:k.on<1
 ·have h3':(k.on:Int)<1:=by omega
  go_enter func19,ntmps19
  go_wp2;go_ret;exact⟨Ag (Je (by omega)).symm,hb0⟩
 have h3':¬(k.on:Int)<1:=by omega
 by_cases h4:271<k.on
 ·have h4':(271:Int)<(k.on:Int):=by omega
  go_enter func19,ntmps19
  go_wp2;go_ret;exact⟨Ag (Je (by omega)).symm,hb0⟩
 have h4':¬(271:Int)<(k.on:Int):=by omega
 obtain⟨tb,toff,eta,_,_⟩:=HK.out.2.2.1 (by omega);obtain⟨ob,ooff,eoa,_,_⟩:=HK.out.2.2.2 (by omega);rw[eta,eoa]at A0 hb0 x0 x1;rw[eta,eoa];have ETA:=hid eta;have EOA:=hid eoa;clear eta eoa;go_enter func19,ntmps19
 go_wp2;clear x0 x1 h1' h2' h3' h4';have n3:No (.cells #[.slice (some ⟨tb,toff,none⟩) k.tn k.tk,.slice (some ⟨ob,ooff,none⟩) k.on k.ok] 27):=⟨⟩;generalize w.alloc n3=W at *;go_loopw [3] (fun i wr=>∃q:Nat,q<=k.tn/\i= .int .i64 q/\Hid (∀j,j<q->Dw k.T j=true)/\Ai wr w n3/\Below w w wr) (fun i _=>k.tn-(intOf i).toNat)
 case atStart=>exact⟨0,Nat.zero_le _,rfl,hid (fun j hj=>by omega),A0,hb0⟩
 case round=>
  obtain⟨q,hq,rfl,HA,A,hB⟩:=hrel;clear A0 hb0;obtain⟨x0,x1⟩:=A.two;by_cases hlt:q<k.tn
  ·obtain⟨b,off,ea,hlt0,hcc⟩:=HK.out.2.2.1.below hB (by omega);obtain⟨⟨q0,q1,q2,q3,q4,q5,q6⟩,ht⟩:=hcc q hlt;rw[ETA.out]at ea;cases ea;have i0:(0:Int)<=(q:Int):=(by omega);have i1:(q:Int)<(k.tn:Int):=(by omega);have pl:=A.lt;have y0:=CM pl x0;have u0:=CM hlt0 q0;have u1:=CM hlt0 q1;have u2:=CM hlt0 q2;have u3:=CM hlt0 q3;have u4:=CM hlt0 q4;have u5:=CM hlt0 q5;have u6:=CM hlt0 q6;have F:Hid (∀p:Up wr,Calls prog 47 #[(k.T q).val] p.W fun e w'=>e= .returned (.bool (Cj (k.T q)))/\Below p.W.heap.size p.W w'):=hid (fun p=>XD (k.T q) p.W (ht.below p.h));unfold Af.val at F;cases t1:Cj (k.T q)with
   |false=>
    rw[t1]at F;clear hcc ht q0 q1 q2 q3 q4 q5 q6 HA;go_wp2;refine AN (by kernel_rfl) (by kernel_rfl) ?_;repeat(go_big_quiet_step (first|(go_at_call 47;exact Ir (F _))))
    refine wpQuiet_nil ?_;rintro _ ⟨p,rfl⟩;go_wp2;go_ret;exact⟨Ag (Hp (by rw[Br,HJ hlt (by simp[Dw,t1])];simp)).symm,Ac hB p.h⟩
   |true=>
    rw[t1]at F;by_cases k0:q=0
    ·subst k0;simp only[Nat.zero_mul,Nat.add_zero]at u0 u1 u2 u3 u4 u5 u6;clear hcc ht q0 q1 q2 q3 q4 q5 q6;go_wp2;refine AN (by kernel_rfl) (by kernel_rfl) ?_;repeat(go_big_quiet_step (first|(go_at_call 47;exact Ir (F _))))
     refine wpQuiet_nil ?_;rintro _ ⟨p,rfl⟩;go_wp2;exact⟨⟨0+1,by omega,rfl,hid (fun j hj=>by
      obtain rfl:j=0:=by omega
      simp[Dw,t1]),A.below p.h,Ac hB p.h⟩,by simp[intOf];omega⟩
    ·obtain⟨m,rfl⟩:∃m,q=m+1:=⟨q-1,by omega⟩;have v0:=CM hlt0 (hcc m (by omega)).1.c0;have j0:decide ((0:Int)<(m:Int)+1)=true:=decide_eq_true (by omega);have j1:(m:Int)<(k.tn:Int):=(by omega);clear hcc ht q0 q1 q2 q3 q4 q5 q6;by_cases c1:(k.T (m+1)).id<=(k.T m).id
     ·have d1:decide ((k.T (m+1)).id<=(k.T m).id)=true:=decide_eq_true c1;go_wp2;refine AN (by kernel_rfl) (by kernel_rfl) ?_;repeat(go_big_quiet_step (first|(go_at_call 47;exact Ir (F _))))
      refine wpQuiet_nil ?_;rintro _ ⟨p,rfl⟩;go_wp2;go_ret;refine⟨Ag (Hp ?_).symm,Ac hB p.h⟩;rw[Br,HJ hlt]
      ·simp
      ·have:decide ((k.T m).id<(k.T (m+1)).id)=false:=(by simp;omega);simp[Dw,this]
     ·have d1:decide ((k.T (m+1)).id<=(k.T m).id)=false:=decide_eq_false c1;go_wp2;refine AN (by kernel_rfl) (by kernel_rfl) ?_;repeat(go_big_quiet_step (first|(go_at_call 47;exact Ir (F _))))
      refine wpQuiet_nil ?_;rintro _ ⟨p,rfl⟩;go_wp2;refine⟨⟨m+1+1,by omega,by go_num,hid (fun j hj=>?_),A.below p.h,Ac hB p.h⟩,by simp[intOf];omega⟩;by_cases e:j=m+1
      ·subst e;have:decide ((k.T m).id<(k.T (m+1)).id)=true:=(by simp;omega);simp[Dw,t1,this]
      ·exact HA.out j (by omega)
  ·have e:q=k.tn:=(by omega);have i1:¬(q:Int)<(k.tn:Int):=(by omega);have TO:Hid (Br k.tn k.T=true):=hid (by
    have d1:decide (1<=k.tn)=true:=(by simp;omega);have d2:decide (k.tn<=9)=true:=(by simp;omega);rw[Br,Ei (by rw[<-e];exact HA.out),d1,d2];rfl)
   clear HA e;go_wp2;have on1:1<=k.on:=(by omega);have on2:k.on<=271:=(by omega);clear x0 x1 h1 h2 h3 h4 i1;go_loopw [4] (fun i wr=>∃q:Nat,q<=k.on/\i= .int .i64 q/\Hid (∀j,j<q->Hu k j=true)/\Ai wr w (.cells #[.slice (some ⟨tb,toff,none⟩) k.tn k.tk,.slice (some ⟨ob,ooff,none⟩) k.on k.ok] 27)/\Below w w wr) (fun i _=>k.on-(intOf i).toNat)
   case atStart=>exact⟨0,Nat.zero_le _,rfl,hid (fun j hj=>by omega),A,hB⟩
   case round=>
    clear hB A;obtain⟨q,hq,rfl,HA,A,hB⟩:=hrel;obtain⟨x0,x1⟩:=A.two;by_cases hlt:q<k.on
    ·obtain⟨_,_,ea,hlt0,hcc⟩:=HK.out.2.2.2.below hB (by omega);rw[EOA.out]at ea;cases ea;obtain⟨⟨q0,q1,q2,q3,q4,q5,q6,q7,q8,q9⟩,ht⟩:=hcc q hlt;simp only[AH.val,AU.val,AX.val]at q4 q6 q7 q9;have i0:(0:Int)<=(q:Int):=(by omega);have i1:(q:Int)<(k.on:Int):=(by omega);have bC:Below wr wr (wr.alloc (k.O q).blk'):=CY wr _;have AC:=Ai.new wr (k.O q).blk';have AK:=A.below bC;have BC:=Ac hB bC;have F:Hid (∀p:Up (wr.alloc (k.O q).blk'),Calls prog 48 #[.agg (k.O q)] p.W fun e w'=>e= .returned (.bool (Bz (k.O q)))/\Below p.W.heap.size p.W w'):=hid (fun p=>Vw (k.O q) p.W ((ht.below bC).below p.h));have PC:Hid (∀m,m<k.on->(wr.alloc (k.O q).blk').cell? ⟨ob,ooff+m*10,none⟩=some (.int .i64 (k.O m).id)):=hid (fun m hm=>(bC.cell (p:=⟨ob,_,none⟩) hlt0).trans (hcc m hm).1.c0);have hlt1:ob<(wr.alloc (k.O q).blk').heap.size:=Nat.lt_of_lt_of_le hlt0 bC.size;unfold Ae.blk' at F bC AC AK BC PC hlt1;clear hcc ht;go_wp2;clear q0 q1 q2 q3 q4 q5 q6 q7 q8 q9 x0 x1;have n2:No (.cells (k.O q) 51):=⟨⟩;generalize hW1:wr.alloc n2=W1 at *;clear hW1;have c0:_=some (Value.int .i64 (k.O q).id):=AC.c0 0 rfl;have y1:=CM AK.lt AK.two.2;have y2:=CM AC.lt c0;have yc:∀p:Up W1,Ai p.W wr n2:=fun p=>AC.below p.h;have yy:∀p:Up W1,p.W.cell? ⟨wr,0,none⟩=_/\p.W.cell? ⟨wr,1,none⟩=_/\_:=fun p=>(yc p).jE;cases t1:Bz (k.O q)with
     |false=>
      rw[t1]at F;refine AN (by kernel_rfl) (by kernel_rfl) ?_;repeat(go_big_quiet_step (first|(go_at_call 48;exact Ir (F _))))
      refine wpQuiet_nil ?_;rintro _ ⟨p,rfl⟩;go_wp2;go_ret;exact⟨Ag (H9 TO on1 on2 hlt (by simp[Hu,t1])).symm,Ac BC p.h⟩
     |true=>
      rw[t1]at F;by_cases k0:q=0
      ·subst k0;have OK:Hid (Hu k 0=FJ (k.O 0)):=hid (by simp[Hu,t1]);have e00:(((0:Nat):Int)==0)=true:=rfl;refine AN (by kernel_rfl) (by kernel_rfl) ?_;repeat(go_big_quiet_step (first|(go_at_call 48;exact Ir (F _))))
       refine wpQuiet_nil ?_;rintro _ ⟨p,rfl⟩;obtain⟨z0,z1,z2,_⟩:=yy p;have BP:=Ac BC p.h;have AP:=AK.below p.h;clear F y1 y2 yc yy c0 PC AC AK;go_wp2;all_goals
        first
        |(go_ret
          exact⟨Ag (H9 TO on1 on2 hlt (by rw[OK.out];simp_all[FJ])).symm,BP⟩)
        |(have OK2:Hid (Hu k 0=true):=hid (by rw[OK.out];simp_all[FJ])
          exact⟨⟨0+1,by omega,rfl,hid (fun j hj=>by
           obtain rfl:j=0:=by omega
           exact OK2.out),AP,BP⟩,by simp[intOf];omega⟩)
      ·obtain⟨m,rfl⟩:∃m,q=m+1:=⟨q-1,by omega⟩;have v0:=CM hlt1 (PC m (by omega));have j0:decide ((0:Int)<(m:Int)+1)=true:=decide_eq_true (by omega);have j1:(m:Int)<(k.on:Int):=(by omega);by_cases c1:(k.O (m+1)).id<=(k.O m).id
       ·have d1:decide ((k.O (m+1)).id<=(k.O m).id)=true:=decide_eq_true c1;refine AN (by kernel_rfl) (by kernel_rfl) ?_;repeat(go_big_quiet_step (first|(go_at_call 48;exact Ir (F _))))
        refine wpQuiet_nil ?_;rintro _ ⟨p,rfl⟩;go_wp2;go_ret;have:decide ((k.O m).id<(k.O (m+1)).id)=false:=(by simp;omega);exact⟨Ag (H9 TO on1 on2 hlt (by simp[Hu,this])).symm,Ac BC p.h⟩
       ·have d1:decide ((k.O (m+1)).id<=(k.O m).id)=false:=decide_eq_false c1;have lt1:(k.O m).id<(k.O (m+1)).id:=(by omega);have OK:Hid (Hu k (m+1)=(FF k.tn k.T (k.O (m+1)).id&&FX k.on k.O (k.O (m+1)).up)):=hid (by
         have:decide ((k.O m).id<(k.O (m+1)).id)=true:=(by simp;omega);simp[Hu,t1,this])
        have hp:1<=(k.O (m+1)).id:=cA HA (by omega) (by simpa using lt1);refine AN (by kernel_rfl) (by kernel_rfl) ?_;repeat(go_big_quiet_step (first|(go_at_call 48;exact Ir (F _))))
        refine wpQuiet_nil ?_;rintro _ ⟨p,rfl⟩;have BP:=Ac BC p.h;have AP:=AK.below p.h;have CP:=AC.below p.h;clear F y1 y2 yc yy c0 PC AC AK v0 d1 c1 lt1 j0 t1;have hwb:=RJ (HW (m+1) hlt);have ed:wrap64 ((k.O (m+1)).id.tdiv 1000)=(k.O (m+1)).id/1000:=by
         rw[Int.tdiv_eq_ediv_of_nonneg (by omega)];unfold wrap64;omega
        have F35:=hid (Jp k ((k.O (m+1)).id/1000) p.W (HK.out.below BP));unfold AJ.val at F35;rw[ETA.out,EOA.out]at F35;obtain⟨z0,z1,z2,_⟩:=CP.jE;obtain⟨g0,g1⟩:=AP.two;have em:((m:Int)+1==0)=false:=(by simp;omega);clear hwb;go_wp2_with fail
        refine F35.out.mono ?_;rintro e w5 ⟨rfl,hb5⟩;have B5:=Ac BP hb5;have A5:=AP.below hb5;have C5:=CP.below hb5;have F36:=hid (Lk k (k.O (m+1)).up w5 (HK.out.below B5));unfold AJ.val at F36;rw[ETA.out,EOA.out]at F36;clear z0 z1 z2 g0 g1 AP CP F35 hb5 BP;obtain⟨z0,z1,z2,_⟩:=C5.jE;obtain⟨g0,g1⟩:=A5.two;go_wp2_with fail
        refine F36.out.mono ?_;rintro e w6 ⟨rfl,hb6⟩;have B6:=Ac B5 hb6;have A6:=A5.below hb6;have C6:=C5.below hb6;clear z0 z1 z2 g0 g1 A5 C5 F36 hb6 B5 em ed;go_wp2;have y0:=CM A6.lt A6.two.1;have y1:=CM A6.lt A6.two.2;have y2:=CM C6.lt C6.jE.1;obtain⟨_,_,ea,tlt,tcc⟩:=HK.out.2.2.1.below B6 (by have:=(Cx TO).1;omega);rw[ETA.out]at ea;cases ea;obtain⟨_,_,ea,olt,occ⟩:=HK.out.2.2.2.below B6 (by omega);rw[EOA.out]at ea;cases ea;have TC:=hid tcc;have OC:=hid occ;clear tcc occ;have F37:Hid (∀(a b:Int) (p:Up w6),Calls prog 51 #[.int .i64 a,.int .i64 1,.int .i64 b] p.W fun e w'=>e= .returned (.bool (Ed a 1 b))/\Below p.W.heap.size p.W w'):=hid (fun a b p=>(BN a 1 b p.W).mono fun _ _ ⟨he,hw⟩=>⟨he,by rw[hw];exact Below.refl _ _⟩);cases ft:Bv (fun i=>(k.T i).id) k.tn ((k.O (m+1)).id/1000)with
        |none=>
         have NO:=hid (Lo TO ft);have d3:decide (IJ none<0)=true:=rfl;have e3:IJ none= -1:=rfl;rw[e3];clear ft d3 e3;refine AN (by kernel_rfl) (by kernel_rfl) ?_;repeat(go_big_quiet_step (first|(go_at_call 51;exact Ir (F37 _ _ _))))
         refine wpQuiet_nil ?_;rintro _ ⟨p,rfl⟩;go_wp2;go_ret;exact⟨Ag (H9 TO on1 on2 hlt (by rw[OK.out,NO.out];rfl)).symm,Ac B6 p.h⟩
        |some t=>
         obtain⟨tl,_⟩:=AZ ft;have NO:=hid (Ju TO ft);have e3:IJ (some t)=(t:Int):=rfl;rw[e3];have t0:decide ((t:Int)<0)=false:=decide_eq_false (by omega);have t0':(0:Int)<=(t:Int):=(by omega);have t1:(t:Int)<(k.tn:Int):=(by omega);have y3:=CM tlt (TC t tl).1.c6;clear ft e3;cases n1:Ed ((k.O (m+1)).id%1000) 1 (k.T t).made with
         |false=>
          rw[n1]at NO;refine AN (by kernel_rfl) (by kernel_rfl) ?_;repeat(go_big_quiet_step (first|(go_at_call 51;exact Ir (F37 _ _ _))))
          refine wpQuiet_nil ?_;rintro _ ⟨p,rfl⟩;go_wp2;go_ret;exact⟨Ag (H9 TO on1 on2 hlt (by rw[OK.out,NO.out];rfl)).symm,Ac B6 p.h⟩
         |true=>
          rw[n1]at NO;cases fu:Bv (fun i=>(k.O i).id) k.on (k.O (m+1)).up with
          |none=>
           have BO:Hid (FX k.on k.O (k.O (m+1)).up=false):=hid (by simp[FX,fu]);have e3:IJ none= -1:=rfl;rw[e3];clear fu e3;refine AN (by kernel_rfl) (by kernel_rfl) ?_;repeat(go_big_quiet_step (first|(go_at_call 51;exact Ir (F37 _ _ _))))
           refine wpQuiet_nil ?_;rintro _ ⟨p,rfl⟩;go_wp2;go_ret;exact⟨Ag (H9 TO on1 on2 hlt (by rw[OK.out,BO.out,Bool.and_false])).symm,Ac B6 p.h⟩
          |some u=>
           obtain⟨ul,_⟩:=AZ fu;have BO:Hid (FX k.on k.O (k.O (m+1)).up=((k.O u).kind==3)):=hid (by simp[FX,fu]);have e3:IJ (some u)=(u:Int):=rfl;rw[e3];have u0:decide ((u:Int)<0)=false:=decide_eq_false (by omega);have u0':(0:Int)<=(u:Int):=(by omega);have u1:(u:Int)<(k.on:Int):=(by omega);have y4:=CM olt (OC u ul).1.c1;clear fu e3;cases c3:((k.O u).kind==3)with
           |false=>
            rw[c3]at BO;refine AN (by kernel_rfl) (by kernel_rfl) ?_;repeat(go_big_quiet_step (first|(go_at_call 51;exact Ir (F37 _ _ _))))
            refine wpQuiet_nil ?_;rintro _ ⟨p,rfl⟩;go_wp2;go_ret;exact⟨Ag (H9 TO on1 on2 hlt (by rw[OK.out,BO.out,Bool.and_false])).symm,Ac B6 p.h⟩
           |true=>
            rw[c3]at BO;refine AN (by kernel_rfl) (by kernel_rfl) ?_;repeat(go_big_quiet_step (first|(go_at_call 51;exact Ir (F37 _ _ _))))
            refine wpQuiet_nil ?_;rintro _ ⟨p,rfl⟩;go_wp2;refine⟨⟨m+1+1,by omega,by go_num,hid (fun j hj=>?_),A6.below p.h,Ac B6 p.h⟩,by simp[intOf];omega⟩;by_cases e:j=m+1
            ·subst e;rw[OK.out,NO.out,BO.out];rfl
            ·exact HA.out j (by omega)
    ·have e:q=k.on:=(by omega);have i1:¬(q:Int)<(k.on:Int):=(by omega);have SP:Hid ((List.range k.on).all (Hu k)=true):=hid (Ei (by rw[<-e];exact HA.out));have OO:Hid (BU k.on k.O=true):=hid (by
      have:=Uk (k:=k) on1 on2;rw[SP.out]at this;simp only[Bool.and_eq_true]at this;exact this.1.1)
     have UU:Hid (∀c,c<k.on->c≠0->∃u,Bv (fun i=>(k.O i).id) k.on (k.O c).up=some u):=hid (fun c hc h0=>by
      have:=Gc SP c hc;simp only[Hu,Bool.and_eq_true]at this;rw[if_neg h0]at this;simp only[Bool.and_eq_true]at this;have hb:=this.2.2;unfold FX at hb;split at hb
      ·rename_i u hu;exact⟨u,hu⟩
      ·cases hb)
     clear HA e;go_wp2;clear x0 x1 i1;go_loopw [8] (fun i wr=>∃q:Nat,q<=k.on/\i= .int .i64 q/\Hid (∀j,j<q->∃m,m<k.on/\Bn (fun i=>(k.O i).id) (fun i=>(k.O i).up) k.on m j=some 0)/\Ai wr w (.cells #[.slice (some ⟨tb,toff,none⟩) k.tn k.tk,.slice (some ⟨ob,ooff,none⟩) k.on k.ok] 27)/\Below w w wr) (fun i _=>k.on-(intOf i).toNat)
     case atStart=>exact⟨0,Nat.zero_le _,rfl,hid (fun j hj=>by omega),A,hB⟩
     case round=>
      clear hB A;obtain⟨q,hq,rfl,HA,A,hB⟩:=hrel;obtain⟨x0,x1⟩:=A.two;by_cases hlt:q<k.on
      ·obtain⟨_,_,ea,hlt0,hcc⟩:=HK.out.2.2.2.below hB (by omega);rw[EOA.out]at ea;cases ea;have q0:=(hcc q hlt).1.c0;have i0:(0:Int)<=(q:Int):=(by omega);have i1:(q:Int)<(k.on:Int):=(by omega);clear hcc;go_wp2;clear q0 x0 x1;go_loopw [9,10] (fun at' n wr=>∃c m:Nat,at'= .int .i64 (k.O c).id/\n= .int .i64 m/\c<k.on/\m<=k.on+1/\Hid (Bn (fun i=>(k.O i).id) (fun i=>(k.O i).up) k.on m q=some c)/\Ai wr w (.cells #[.slice (some ⟨tb,toff,none⟩) k.tn k.tk,.slice (some ⟨ob,ooff,none⟩) k.on k.ok] 27)/\Below w w wr) (fun _ n _=>k.on+2-(intOf n).toNat)
       case atStart=>exact⟨q,0,rfl,rfl,hlt,by omega,hid rfl,A,hB⟩
       case round=>
        clear hB A;obtain⟨c,m,rfl,rfl,hc,hm,HP,A,hB⟩:=hrel;obtain⟨x0,x1⟩:=A.two;by_cases c0:c=0
        ·subst c0;have r1:=(Cu OO).1;go_wp2;refine⟨⟨q+1,by omega,by go_num,hid (fun j hj=>?_),A,hB⟩,by simp[intOf];omega⟩;by_cases e:j=q
         ·subst e;exact⟨m,Pm Gt hlt HP,HP⟩
         ·exact HA.out j (by omega)
        ·have r1:¬(k.O c).id=1:=fun e=>c0 ((Cq OO).inj hc (by omega) (by rw[e];exact(Cu OO).1.symm));by_cases big:k.on<m
         ·have big':(k.on:Int)<(m:Int):=(by omega);have NR:Hid (Fc (fun i=>(k.O i).id) (fun i=>(k.O i).up) k.on=false):=hid (by
           cases er:Fc (fun i=>(k.O i).id) (fun i=>(k.O i).up) k.on with
           |false=>rfl
           |true=>
            obtain⟨a,ha,ea⟩:=Gq.1 er q hlt;have hp:=HP.out;have e1:m=a+(m-a-1+1):=(by omega);rw[e1,Ew,ea,Option.bind_some]at hp;simp[Bn,Ky]at hp)
          clear HP;go_wp2;go_ret;exact⟨Ag (by rw[JP TO.out on1 on2,NR.out,Bool.and_false]),hB⟩
         ·have big':¬(k.on:Int)<(m:Int):=(by omega);obtain⟨u,hu⟩:=UU.out c hc c0;obtain⟨ul,ue⟩:=AZ hu;have HP2:Hid (Bn (fun i=>(k.O i).id) (fun i=>(k.O i).up) k.on (m+1) q=some u):=hid (by
           rw[DI,HP.out,Option.bind_some];unfold Ky;rw[if_neg c0];exact hu)
          obtain⟨_,_,ea,olt,occ⟩:=HK.out.2.2.2.below hB (by omega);rw[EOA.out]at ea;cases ea;have y1:=CM A.lt x1;have y0:=CM A.lt x0;have y3:=CM olt (occ c hc).1.c2;have F36:Hid (∀p:Up wr,Calls prog 50 #[k.val,.int .i64 (k.O c).id] p.W fun e w'=>e= .returned (.int .i64 (c:Int))/\Below p.W.heap.size p.W w'):=hid (fun p=>by
           have:=Lk k (k.O c).id p.W (HK.out.below (Ac hB p.h));rw[Dx (Cq OO.out) hc]at this;exact this)
          unfold AJ.val at F36;rw[ETA.out,EOA.out]at F36;have UE:=hid ue;have n0:(0:Int)<=(c:Int):=(by omega);have n1:(c:Int)<(k.on:Int):=(by omega);clear HP hu ue occ;go_wp2;refine AN (by kernel_rfl) (by kernel_rfl) ?_;repeat(go_big_quiet_step (first|(go_at_call 50;exact Ir (F36 _))))
          refine wpQuiet_nil ?_;rintro _ ⟨p,rfl⟩;go_wp2;exact⟨⟨u,m+1,by rw[<-UE.out],by go_num,ul,by omega,HP2,A.below p.h,Ac hB p.h⟩,by simp[intOf];omega⟩
      ·have e:q=k.on:=(by omega);have i1:¬(q:Int)<(k.on:Int):=(by omega);have RR:Hid (Fc (fun i=>(k.O i).id) (fun i=>(k.O i).up) k.on=true):=hid (Gq.2 (by rw[<-e];rw[e]at HA ⊢;exact HA.out));clear HA e;go_wp2;go_ret;exact⟨Ag (by rw[JP TO.out on1 on2,SP.out,RR.out];rfl),hB⟩
end Go.Proofs.YtblapfnglojgjaaGreatDoor
