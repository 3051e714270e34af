import Derived.Test.YtdaccbddcjlkpaaGreatDoorZ5p
set_option maxRecDepth 100000
set_option maxHeartbeats 8000000
namespace Go.Proofs.YtdaccbddcjlkpaaGreatDoor
open Go Go.RowKit Go.Deep Go.BigFrame Go.Proofs.Tryz
open Go.Value renaming slice→qV
open Go.Ending renaming returned→rT
open _root_.Nat renaming zero_le→qy
open _root_.Bool renaming and_eq_true→qz
open _root_.Option renaming bind_some→kQ
open Go renaming World→qM,Calls→qP
open Go.RowKit renaming Below→qN
variable {w:qM}{v:Value}
structure Up(w:qM) where
 W:qM
 h:qN w w W
instance (w:qM):Inhabited (Up w):=⟨⟨w,Below.refl _ _⟩⟩
theorem Ba{id:Nat}{Q:Exit->Act->qM->Prop}{a:Act}{w:qM}{l:List Oper}(hm:prog.follows .mixedOrders=true)(hB:Region.lexB .any l.toArray=true)
 (h:wpQuiet prog l.toArray (fun w'=>∃p:Up w,w'=p.W) (fun a'=>∀w',(∃p:Up w,w'=p.W)->Q .normal a' w') l a):(Code.region id l.toArray true).wp prog Q a w:=
 wp_region_quiet (C:=fun w'=>∃p:Up w,w'=p.W) hm hB ⟨⟨w.drew,(Below.refl _ _).drew⟩,rfl⟩ (by simpa using h)
theorem Ig{p:Up w}{f:FuncId}{args:Array Value}(h:qP prog f args p.W fun e w'=>e= rT v/\qN p.W.heap.size p.W w'):qP prog f args p.W fun e w''=>e= rT v/\∃q:Up w,w''=q.W:=
 h.mono fun _ w' ⟨he,hb⟩=>⟨he,⟨w',Af p.h hb⟩,rfl⟩
theorem Dg{b o:Nat}(hb:b<w.heap.size)(h:w.cell? ⟨b,o,none⟩=some v):∀p:Up w,p.W.cell? ⟨b,o,none⟩=some v:=fun p=>(p.h.cell (p:=⟨b,o,none⟩) hb).trans h
theorem Yt(t:Ae)(w:qM)(ht:t.at w):
 qP prog 20 #[t.val] w fun e w'=>e= rT (.bool (C8 t))/\qN w w w':=UV _ _ _ _ _ _ _ _ _ _ _ _ _ _ _ _ _ _ w ht.1.1 ht.2.1.1 ht.2.2.1 ht.1.2 ht.2.1.2 ht.2.2.2
theorem Hl{k:Av}(ht:BH k.tn k.T=true)(h1:1<=k.on)(h2:k.on<=271){q:Nat}(hq:q<k.on)(h:Hr k q=false):Bh k=false:=by
 rw[JD ht h1 h2,Hs hq h];rfl
def Ab.blk'(t:Ab):Obj:= .cells t 59
theorem WM(t:Ab)(w:qM)(ht:t.at w):
 qP prog 21 #[.agg t] w fun e w'=>e= rT (.bool (CF t))/\qN w w w':=SN t w ht
theorem FY(k:Av)(w:qM)(hk:k.at w)(hw:∀i,i<k.on->(Lit.int .i64 (k.O i).id).wf=true):
 qP prog 9 #[k.val] w fun e w'=>e= rT (.bool (Bh k))/\qN w w w':=by
 have n4:No (.cells #[qV k.ta k.tn k.tk,qV k.oa k.on k.ok] 27):=⟨⟩;have hb0:=(Below.refl _ w).alloc nr n4;have A0:=Ag.new w n4;have HK:=qC hk;have HW:=qC hw;have m1:=hk.1;have m2:=hk.2.1;unfold maxLen at m1 m2;unfold Av.val;obtain⟨x0,x1⟩:=A0.two;clear hk hw;by_cases h1:k.tn<1
 ·have h1':(k.tn:Int)<1:=by omega
  go_enter func9,ntmps9
  go_wp2;go_ret;have e:k.tn=0:=by omega
  exact⟨Ah (Hc (by simp[BH,e])).symm,hb0⟩
 have h1':¬(k.tn:Int)<1:=by omega
 by_cases h2:9<k.tn
 ·have h2':(9:Int)<(k.tn:Int):=by omega
  go_enter func9,ntmps9
  go_wp2;go_ret;have:decide (k.tn<=9)=false:=by simp;omega
  exact⟨Ah (Hc (by simp[BH,this])).symm,hb0⟩
 have h2':¬(9:Int)<(k.tn:Int):=by omega
 by_cases h3:k.on<1
 ·have h3':(k.on:Int)<1:=by omega
  go_enter func9,ntmps9
  go_wp2;go_ret;exact⟨Ah (IP qQ).symm,hb0⟩
 have h3':¬(k.on:Int)<1:=by omega
 by_cases h4:271<k.on
 ·have h4':(271:Int)<(k.on:Int):=by omega
  go_enter func9,ntmps9
  go_wp2;go_ret;exact⟨Ah (IP qQ).symm,hb0⟩
 have h4':¬(271:Int)<(k.on:Int):=by omega
 obtain⟨tb,toff,eta,_,_⟩:=HK.out.2.2.1 qQ;obtain⟨ob,ooff,eoa,_,_⟩:=HK.out.2.2.2 qQ;rw[eta,eoa]at A0 hb0 x0 x1;rw[eta,eoa];have ETA:=qC eta;have EOA:=qC eoa;clear eta eoa;go_enter func9,ntmps9
 go_wp2;clear x0 x1 h1' h2' h3' h4';have n3:No (.cells #[qV (some ⟨tb,toff,none⟩) k.tn k.tk,qV (some ⟨ob,ooff,none⟩) k.on k.ok] 27):=⟨⟩;generalize w.alloc n3=W at *;go_loopw [3] (fun i wr=>∃q:Nat,q<=k.tn/\i= .int .i64 q/\Hid (∀j,j<q->Ej k.T j=true)/\Ag wr w n3/\qN w w wr) (fun i _=>k.tn-(intOf i).toNat)
 case atStart=>exact⟨0,qy _,rfl,qC (fun j hj=>by omega),A0,hb0⟩
 case round=>
  obtain⟨q,hq,rfl,HA,A,hB⟩:=hrel;clear A0 hb0;obtain⟨x0,x1⟩:=A.two;by_cases hlt:q<k.tn
  ·obtain⟨b,off,ea,hlt0,hcc⟩:=HK.out.2.2.1.below hB qQ;obtain⟨⟨q0,q1,q2,q3,q4,q5,q6⟩,ht⟩:=hcc q hlt;rw[ETA.out]at ea;cases ea;have i0:(0:Int)<=(q:Int):=qQ;have i1:(q:Int)<(k.tn:Int):=qQ;have pl:=A.lt;have y0:=Dg pl x0;have u0:=Dg hlt0 q0;have u1:=Dg hlt0 q1;have u2:=Dg hlt0 q2;have u3:=Dg hlt0 q3;have u4:=Dg hlt0 q4;have u5:=Dg hlt0 q5;have u6:=Dg hlt0 q6;have F:Hid (∀p:Up wr,qP prog 20 #[(k.T q).val] p.W fun e w'=>e= rT (.bool (C8 (k.T q)))/\qN p.W.heap.size p.W w'):=qC (fun p=>Yt (k.T q) p.W (ht.below p.h));unfold Ae.val at F;cases t1:C8 (k.T q)with
   |false=>
    rw[t1]at F;clear hcc ht q0 q1 q2 q3 q4 q5 q6 HA;go_wp2;refine Ba kR kR ?_;repeat(go_big_quiet_step (first|(go_at_call 20;exact Ig (F _))))
    refine wpQuiet_nil ?_;rintro _ ⟨p,rfl⟩;go_wp2;go_ret;exact⟨Ah (Hc (by rw[BH,Hs hlt (by simp[Ej,t1])];simp)).symm,Af hB p.h⟩
   |true=>
    rw[t1]at F;by_cases k0:q=0
    ·subst k0;simp only[Nat.zero_mul,Nat.add_zero]at u0 u1 u2 u3 u4 u5 u6;clear hcc ht q0 q1 q2 q3 q4 q5 q6;go_wp2;refine Ba kR kR ?_;repeat(go_big_quiet_step (first|(go_at_call 20;exact Ig (F _))))
     refine wpQuiet_nil ?_;rintro _ ⟨p,rfl⟩;go_wp2;exact⟨⟨0+1,by omega,rfl,qC (fun j hj=>by
      obtain rfl:j=0:=by omega
      simp[Ej,t1]),A.below p.h,Af hB p.h⟩,by simp[intOf];omega⟩
    ·obtain⟨m,rfl⟩:∃m,q=m+1:=⟨q-1,by omega⟩;have v0:=Dg hlt0 (hcc m qQ).1.c0;have j0:decide ((0:Int)<(m:Int)+1)=true:=decide_eq_true qQ;have j1:(m:Int)<(k.tn:Int):=qQ;clear hcc ht q0 q1 q2 q3 q4 q5 q6;by_cases c1:(k.T (m+1)).id<=(k.T m).id
     ·have d1:decide ((k.T (m+1)).id<=(k.T m).id)=true:=decide_eq_true c1;go_wp2;refine Ba kR kR ?_;repeat(go_big_quiet_step (first|(go_at_call 20;exact Ig (F _))))
      refine wpQuiet_nil ?_;rintro _ ⟨p,rfl⟩;go_wp2;go_ret;refine⟨Ah (Hc ?_).symm,Af hB p.h⟩;rw[BH,Hs hlt]
      ·simp
      ·have:decide ((k.T m).id<(k.T (m+1)).id)=false:=sO;simp[Ej,this]
     ·have d1:decide ((k.T (m+1)).id<=(k.T m).id)=false:=decide_eq_false c1;go_wp2;refine Ba kR kR ?_;repeat(go_big_quiet_step (first|(go_at_call 20;exact Ig (F _))))
      refine wpQuiet_nil ?_;rintro _ ⟨p,rfl⟩;go_wp2;refine⟨⟨m+1+1,by omega,by go_num,qC (fun j hj=>?_),A.below p.h,Af hB p.h⟩,by simp[intOf];omega⟩;by_cases e:j=m+1
      ·subst e;have:decide ((k.T m).id<(k.T (m+1)).id)=true:=sO;simp[Ej,t1,this]
      ·exact HA.out j qQ
  ·have e:q=k.tn:=qQ;have i1:¬(q:Int)<(k.tn:Int):=qQ;have TO:Hid (BH k.tn k.T=true):=qC (by
    have d1:decide (1<=k.tn)=true:=sO;have d2:decide (k.tn<=9)=true:=sO;rw[BH,Fc (by rw[<-e];exact HA.out),d1,d2];rfl)
   clear HA e;go_wp2;have on1:1<=k.on:=qQ;have on2:k.on<=271:=qQ;clear x0 x1 h1 h2 h3 h4 i1;go_loopw [4] (fun i wr=>∃q:Nat,q<=k.on/\i= .int .i64 q/\Hid (∀j,j<q->Hr k j=true)/\Ag wr w (.cells #[qV (some ⟨tb,toff,none⟩) k.tn k.tk,qV (some ⟨ob,ooff,none⟩) k.on k.ok] 27)/\qN w w wr) (fun i _=>k.on-(intOf i).toNat)
   case atStart=>exact⟨0,qy _,rfl,qC (fun j hj=>by omega),A,hB⟩
   case round=>
    clear hB A;obtain⟨q,hq,rfl,HA,A,hB⟩:=hrel;obtain⟨x0,x1⟩:=A.two;by_cases hlt:q<k.on
    ·obtain⟨_,_,ea,hlt0,hcc⟩:=HK.out.2.2.2.below hB qQ;rw[EOA.out]at ea;cases ea;obtain⟨⟨q0,q1,q2,q3,q4,q5,q6,q7,q8,q9⟩,ht⟩:=hcc q hlt;simp only[As.val,AJ.val,AE.val]at q4 q6 q7 q9;have i0:(0:Int)<=(q:Int):=qQ;have i1:(q:Int)<(k.on:Int):=qQ;have bC:qN wr wr (wr.alloc (k.O q).blk'):=Bg wr _;have AC:=Ag.new wr (k.O q).blk';have AK:=A.below bC;have BC:=Af hB bC;have F:Hid (∀p:Up (wr.alloc (k.O q).blk'),qP prog 21 #[.agg (k.O q)] p.W fun e w'=>e= rT (.bool (CF (k.O q)))/\qN p.W.heap.size p.W w'):=qC (fun p=>WM (k.O q) p.W ((ht.below bC).below p.h));have PC:Hid (∀m,m<k.on->(wr.alloc (k.O q).blk').cell? ⟨ob,ooff+m*10,none⟩=some (.int .i64 (k.O m).id)):=qC (fun m hm=>(bC.cell (p:=⟨ob,_,none⟩) hlt0).trans (hcc m hm).1.c0);have hlt1:ob<(wr.alloc (k.O q).blk').heap.size:=Nat.lt_of_lt_of_le hlt0 bC.size;unfold Ab.blk' at F bC AC AK BC PC hlt1;clear hcc ht;go_wp2;clear q0 q1 q2 q3 q4 q5 q6 q7 q8 q9 x0 x1;have n2:No (.cells (k.O q) 59):=⟨⟩;generalize hW1:wr.alloc n2=W1 at *;clear hW1;have c0:_=some (Value.int .i64 (k.O q).id):=AC.c0 0 rfl;have y1:=Dg AK.lt AK.two.2;have y2:=Dg AC.lt c0;have yc:∀p:Up W1,Ag p.W wr n2:=fun p=>AC.below p.h;have yy:∀p:Up W1,p.W.cell? ⟨wr,0,none⟩=_/\p.W.cell? ⟨wr,1,none⟩=_/\_:=fun p=>(yc p).jE;cases t1:CF (k.O q)with
     |false=>
      rw[t1]at F;refine Ba kR kR ?_;repeat(go_big_quiet_step (first|(go_at_call 21;exact Ig (F _))))
      refine wpQuiet_nil ?_;rintro _ ⟨p,rfl⟩;go_wp2;go_ret;exact⟨Ah (Hl TO on1 on2 hlt (by simp[Hr,t1])).symm,Af BC p.h⟩
     |true=>
      rw[t1]at F;by_cases k0:q=0
      ·subst k0;have OK:Hid (Hr k 0=Gm (k.O 0)):=qC (by simp[Hr,t1]);have e00:(((0:Nat):Int)==0)=true:=rfl;refine Ba kR kR ?_;repeat(go_big_quiet_step (first|(go_at_call 21;exact Ig (F _))))
       refine wpQuiet_nil ?_;rintro _ ⟨p,rfl⟩;obtain⟨z0,z1,z2,_⟩:=yy p;have BP:=Af BC p.h;have AP:=AK.below p.h;clear F y1 y2 yc yy c0 PC AC AK;go_wp2;all_goals
        first
        |(go_ret
          exact⟨Ah (Hl TO on1 on2 hlt (by rw[OK.out];simp_all[Gm])).symm,BP⟩)
        |(have OK2:Hid (Hr k 0=true):=qC (by rw[OK.out];simp_all[Gm])
          exact⟨⟨0+1,by omega,rfl,qC (fun j hj=>by
           obtain rfl:j=0:=by omega
           exact OK2.out),AP,BP⟩,by simp[intOf];omega⟩)
      ·obtain⟨m,rfl⟩:∃m,q=m+1:=⟨q-1,by omega⟩;have v0:=Dg hlt1 (PC m qQ);have j0:decide ((0:Int)<(m:Int)+1)=true:=decide_eq_true qQ;have j1:(m:Int)<(k.on:Int):=qQ;by_cases c1:(k.O (m+1)).id<=(k.O m).id
       ·have d1:decide ((k.O (m+1)).id<=(k.O m).id)=true:=decide_eq_true c1;refine Ba kR kR ?_;repeat(go_big_quiet_step (first|(go_at_call 21;exact Ig (F _))))
        refine wpQuiet_nil ?_;rintro _ ⟨p,rfl⟩;go_wp2;go_ret;have:decide ((k.O m).id<(k.O (m+1)).id)=false:=sO;exact⟨Ah (Hl TO on1 on2 hlt (by simp[Hr,this])).symm,Af BC p.h⟩
       ·have d1:decide ((k.O (m+1)).id<=(k.O m).id)=false:=decide_eq_false c1;have lt1:(k.O m).id<(k.O (m+1)).id:=qQ;have OK:Hid (Hr k (m+1)=(FZ k.tn k.T (k.O (m+1)).id&&Ga k.on k.O (k.O (m+1)).up)):=qC (by
         have:decide ((k.O m).id<(k.O (m+1)).id)=true:=sO;simp[Hr,t1,this])
        have hp:1<=(k.O (m+1)).id:=dy HA qQ (by simpa using lt1);refine Ba kR kR ?_;repeat(go_big_quiet_step (first|(go_at_call 21;exact Ig (F _))))
        refine wpQuiet_nil ?_;rintro _ ⟨p,rfl⟩;have BP:=Af BC p.h;have AP:=AK.below p.h;have CP:=AC.below p.h;clear F y1 y2 yc yy c0 PC AC AK v0 d1 c1 lt1 j0 t1;have hwb:=Ro (HW (m+1) hlt);have ed:wrap64 ((k.O (m+1)).id.tdiv 1000)=(k.O (m+1)).id/1000:=by
         rw[Int.tdiv_eq_ediv_of_nonneg qQ];unfold wrap64;omega
        have F35:=qC (Jh k ((k.O (m+1)).id/1000) p.W (HK.out.below BP));unfold Av.val at F35;rw[ETA.out,EOA.out]at F35;obtain⟨z0,z1,z2,_⟩:=CP.jE;obtain⟨g0,g1⟩:=AP.two;have em:((m:Int)+1==0)=false:=sO;clear hwb;go_wp2_with fail
        refine F35.out.mono ?_;rintro e w5 ⟨rfl,hb5⟩;have B5:=Af BP hb5;have A5:=AP.below hb5;have C5:=CP.below hb5;have F36:=qC (Kw k (k.O (m+1)).up w5 (HK.out.below B5));unfold Av.val at F36;rw[ETA.out,EOA.out]at F36;clear z0 z1 z2 g0 g1 AP CP F35 hb5 BP;obtain⟨z0,z1,z2,_⟩:=C5.jE;obtain⟨g0,g1⟩:=A5.two;go_wp2_with fail
        refine F36.out.mono ?_;rintro e w6 ⟨rfl,hb6⟩;have B6:=Af B5 hb6;have A6:=A5.below hb6;have C6:=C5.below hb6;clear z0 z1 z2 g0 g1 A5 C5 F36 hb6 B5 em ed;go_wp2;have y0:=Dg A6.lt A6.two.1;have y1:=Dg A6.lt A6.two.2;have y2:=Dg C6.lt C6.jE.1;obtain⟨_,_,ea,tlt,tcc⟩:=HK.out.2.2.1.below B6 (by have:=(CZ TO).1;omega);rw[ETA.out]at ea;cases ea;obtain⟨_,_,ea,olt,occ⟩:=HK.out.2.2.2.below B6 qQ;rw[EOA.out]at ea;cases ea;have TC:=qC tcc;have OC:=qC occ;clear tcc occ;have F37:Hid (∀(a b:Int) (p:Up w6),qP prog 24 #[.int .i64 a,.int .i64 1,.int .i64 b] p.W fun e w'=>e= rT (.bool (Ev a 1 b))/\qN p.W.heap.size p.W w'):=qC (fun a b p=>(Cm a 1 b p.W).mono fun _ _ ⟨he,hw⟩=>⟨he,by rw[hw];exact Below.refl _ _⟩);cases ft:Bq (fun i=>(k.T i).id) k.tn ((k.O (m+1)).id/1000)with
        |none=>
         have NO:=qC (Lg TO ft);have d3:decide (GX none<0)=true:=rfl;have e3:GX none= -1:=rfl;rw[e3];clear ft d3 e3;refine Ba kR kR ?_;repeat(go_big_quiet_step (first|(go_at_call 24;exact Ig (F37 _ _ _))))
         refine wpQuiet_nil ?_;rintro _ ⟨p,rfl⟩;go_wp2;go_ret;exact⟨Ah (Hl TO on1 on2 hlt (by rw[OK.out,NO.out];rfl)).symm,Af B6 p.h⟩
        |some t=>
         obtain⟨tl,_⟩:=AH ft;have NO:=qC (Jg TO ft);have e3:GX (some t)=(t:Int):=rfl;rw[e3];have t0:decide ((t:Int)<0)=false:=decide_eq_false qQ;have t0':(0:Int)<=(t:Int):=qQ;have t1:(t:Int)<(k.tn:Int):=qQ;have y3:=Dg tlt (TC t tl).1.c6;clear ft e3;cases n1:Ev ((k.O (m+1)).id%1000) 1 (k.T t).made with
         |false=>
          rw[n1]at NO;refine Ba kR kR ?_;repeat(go_big_quiet_step (first|(go_at_call 24;exact Ig (F37 _ _ _))))
          refine wpQuiet_nil ?_;rintro _ ⟨p,rfl⟩;go_wp2;go_ret;exact⟨Ah (Hl TO on1 on2 hlt (by rw[OK.out,NO.out];rfl)).symm,Af B6 p.h⟩
         |true=>
          rw[n1]at NO;cases fu:Bq (fun i=>(k.O i).id) k.on (k.O (m+1)).up with
          |none=>
           have BO:Hid (Ga k.on k.O (k.O (m+1)).up=false):=qC (by simp[Ga,fu]);have e3:GX none= -1:=rfl;rw[e3];clear fu e3;refine Ba kR kR ?_;repeat(go_big_quiet_step (first|(go_at_call 24;exact Ig (F37 _ _ _))))
           refine wpQuiet_nil ?_;rintro _ ⟨p,rfl⟩;go_wp2;go_ret;exact⟨Ah (Hl TO on1 on2 hlt (by rw[OK.out,BO.out,Bool.and_false])).symm,Af B6 p.h⟩
          |some u=>
           obtain⟨ul,_⟩:=AH fu;have BO:Hid (Ga k.on k.O (k.O (m+1)).up=((k.O u).kind==3)):=qC (by simp[Ga,fu]);have e3:GX (some u)=(u:Int):=rfl;rw[e3];have u0:decide ((u:Int)<0)=false:=decide_eq_false qQ;have u0':(0:Int)<=(u:Int):=qQ;have u1:(u:Int)<(k.on:Int):=qQ;have y4:=Dg olt (OC u ul).1.c1;clear fu e3;cases c3:((k.O u).kind==3)with
           |false=>
            rw[c3]at BO;refine Ba kR kR ?_;repeat(go_big_quiet_step (first|(go_at_call 24;exact Ig (F37 _ _ _))))
            refine wpQuiet_nil ?_;rintro _ ⟨p,rfl⟩;go_wp2;go_ret;exact⟨Ah (Hl TO on1 on2 hlt (by rw[OK.out,BO.out,Bool.and_false])).symm,Af B6 p.h⟩
           |true=>
            rw[c3]at BO;refine Ba kR kR ?_;repeat(go_big_quiet_step (first|(go_at_call 24;exact Ig (F37 _ _ _))))
            refine wpQuiet_nil ?_;rintro _ ⟨p,rfl⟩;go_wp2;refine⟨⟨m+1+1,by omega,by go_num,qC (fun j hj=>?_),A6.below p.h,Af B6 p.h⟩,by simp[intOf];omega⟩;by_cases e:j=m+1
            ·subst e;rw[OK.out,NO.out,BO.out];rfl
            ·exact HA.out j qQ
    ·have e:q=k.on:=qQ;have i1:¬(q:Int)<(k.on:Int):=qQ;have SP:Hid ((List.range k.on).all (Hr k)=true):=qC (Fc (by rw[<-e];exact HA.out));have OO:Hid (Cr k.on k.O=true):=qC (by
      have:=Tw (k:=k) on1 on2;rw[SP.out]at this;simp only[qz]at this;exact this.1.1)
     have UU:Hid (∀c,c<k.on->c≠0->∃u,Bq (fun i=>(k.O i).id) k.on (k.O c).up=some u):=qC (fun c hc h0=>by
      have:=FI SP c hc;simp only[Hr,qz]at this;rw[if_neg h0]at this;simp only[qz]at this;have hb:=this.2.2;unfold Ga at hb;split at hb
      ·rename_i u hu;exact⟨u,hu⟩
      ·cases hb)
     clear HA e;go_wp2;clear x0 x1 i1;go_loopw [8] (fun i wr=>∃q:Nat,q<=k.on/\i= .int .i64 q/\Hid (∀j,j<q->∃m,m<k.on/\Bt (fun i=>(k.O i).id) (fun i=>(k.O i).up) k.on m j=some 0)/\Ag wr w (.cells #[qV (some ⟨tb,toff,none⟩) k.tn k.tk,qV (some ⟨ob,ooff,none⟩) k.on k.ok] 27)/\qN w w wr) (fun i _=>k.on-(intOf i).toNat)
     case atStart=>exact⟨0,qy _,rfl,qC (fun j hj=>by omega),A,hB⟩
     case round=>
      clear hB A;obtain⟨q,hq,rfl,HA,A,hB⟩:=hrel;obtain⟨x0,x1⟩:=A.two;by_cases hlt:q<k.on
      ·obtain⟨_,_,ea,hlt0,hcc⟩:=HK.out.2.2.2.below hB qQ;rw[EOA.out]at ea;cases ea;have q0:=(hcc q hlt).1.c0;have i0:(0:Int)<=(q:Int):=qQ;have i1:(q:Int)<(k.on:Int):=qQ;clear hcc;go_wp2;clear q0 x0 x1;go_loopw [9,10] (fun at' n wr=>∃c m:Nat,at'= .int .i64 (k.O c).id/\n= .int .i64 m/\c<k.on/\m<=k.on+1/\Hid (Bt (fun i=>(k.O i).id) (fun i=>(k.O i).up) k.on m q=some c)/\Ag wr w (.cells #[qV (some ⟨tb,toff,none⟩) k.tn k.tk,qV (some ⟨ob,ooff,none⟩) k.on k.ok] 27)/\qN w w wr) (fun _ n _=>k.on+2-(intOf n).toNat)
       case atStart=>exact⟨q,0,rfl,rfl,hlt,by omega,qC rfl,A,hB⟩
       case round=>
        clear hB A;obtain⟨c,m,rfl,rfl,hc,hm,HP,A,hB⟩:=hrel;obtain⟨x0,x1⟩:=A.two;by_cases c0:c=0
        ·subst c0;have r1:=(Cy OO).1;go_wp2;refine⟨⟨q+1,by omega,by go_num,qC (fun j hj=>?_),A,hB⟩,by simp[intOf];omega⟩;by_cases e:j=q
         ·subst e;exact⟨m,Pn Gt hlt HP,HP⟩
         ·exact HA.out j qQ
        ·have r1:¬(k.O c).id=1:=fun e=>c0 ((Ch OO).inj hc qQ (by rw[e];exact(Cy OO).1.symm));by_cases big:k.on<m
         ·have big':(k.on:Int)<(m:Int):=qQ;have NR:Hid (FC (fun i=>(k.O i).id) (fun i=>(k.O i).up) k.on=false):=qC (by
           cases er:FC (fun i=>(k.O i).id) (fun i=>(k.O i).up) k.on with
           |false=>rfl
           |true=>
            obtain⟨a,ha,ea⟩:=Gv.1 er q hlt;have hp:=HP.out;have e1:m=a+(m-a-1+1):=qQ;rw[e1,Fv,ea,kQ]at hp;simp[Bt,J6]at hp)
          clear HP;go_wp2;go_ret;exact⟨Ah (by rw[JD TO.out on1 on2,NR.out,Bool.and_false]),hB⟩
         ·have big':¬(k.on:Int)<(m:Int):=qQ;obtain⟨u,hu⟩:=UU.out c hc c0;obtain⟨ul,ue⟩:=AH hu;have HP2:Hid (Bt (fun i=>(k.O i).id) (fun i=>(k.O i).up) k.on (m+1) q=some u):=qC (by
           rw[Ek,HP.out,kQ];unfold J6;rw[if_neg c0];exact hu)
          obtain⟨_,_,ea,olt,occ⟩:=HK.out.2.2.2.below hB qQ;rw[EOA.out]at ea;cases ea;have y1:=Dg A.lt x1;have y0:=Dg A.lt x0;have y3:=Dg olt (occ c hc).1.c2;have F36:Hid (∀p:Up wr,qP prog 23 #[k.val,.int .i64 (k.O c).id] p.W fun e w'=>e= rT (.int .i64 (c:Int))/\qN p.W.heap.size p.W w'):=qC (fun p=>by
           have:=Kw k (k.O c).id p.W (HK.out.below (Af hB p.h));rw[Eg (Ch OO.out) hc]at this;exact this)
          unfold Av.val at F36;rw[ETA.out,EOA.out]at F36;have UE:=qC ue;have n0:(0:Int)<=(c:Int):=qQ;have n1:(c:Int)<(k.on:Int):=qQ;clear HP hu ue occ;go_wp2;refine Ba kR kR ?_;repeat(go_big_quiet_step (first|(go_at_call 23;exact Ig (F36 _))))
          refine wpQuiet_nil ?_;rintro _ ⟨p,rfl⟩;go_wp2;exact⟨⟨u,m+1,by rw[<-UE.out],by go_num,ul,by omega,HP2,A.below p.h,Af hB p.h⟩,by simp[intOf];omega⟩
      ·have e:q=k.on:=qQ;have i1:¬(q:Int)<(k.on:Int):=qQ;have RR:Hid (FC (fun i=>(k.O i).id) (fun i=>(k.O i).up) k.on=true):=qC (Gv.2 (by rw[<-e];rw[e]at HA ⊢;exact HA.out));clear HA e;go_wp2;go_ret;exact⟨Ah (by rw[JD TO.out on1 on2,SP.out,RR.out];rfl),hB⟩
end Go.Proofs.YtdaccbddcjlkpaaGreatDoor
