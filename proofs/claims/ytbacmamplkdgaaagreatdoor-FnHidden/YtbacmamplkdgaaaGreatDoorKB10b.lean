import Derived.Test.YtbacmamplkdgaaaGreatDoorZ11b
import Derived.Test.YtbacmamplkdgaaaGreatDoorZ2b
set_option maxRecDepth 100000
set_option maxHeartbeats 8000000
namespace Go.Proofs.YtbacmamplkdgaaaGreatDoor
open Go Go.RowKit Go.Deep Go.BigFrame
structure Up(w:World) where
 W:World
 h:Below w.heap.size w W
instance (w:World):Inhabited (Up w):=⟨⟨w,Below.refl _ _⟩⟩
theorem wp_region_quiet_up{id:Nat}{Q:Exit→Act→World→Prop}{a:Act}{w:World}{l:List Oper}(hm:Tryz.prog.follows .mixedOrders=true)(hB:Region.lexB .any l.toArray=true)
 (h:wpQuiet Tryz.prog l.toArray (fun w'=>∃p:Up w,w'=p.W) (fun a'=>∀w',(∃p:Up w,w'=p.W)→Q .normal a' w') l a):(Code.region id l.toArray true).wp Tryz.prog Q a w:=
 wp_region_quiet (C:=fun w'=>∃p:Up w,w'=p.W) hm hB ⟨⟨w.drew,(Below.refl _ _).drew⟩,rfl⟩ (by simpa using h)
theorem up_of{w:World}{p:Up w}{f:FuncId}{args:Array Value}{v:Value}(h:Calls Tryz.prog f args p.W fun e w'=>e= .returned v∧Below p.W.heap.size p.W w'):Calls Tryz.prog f args p.W fun e w''=>e= .returned v∧∃q:Up w,w''=q.W:=
 h.mono fun _ w' ⟨he,hb⟩=>⟨he,⟨w',then_ p.h hb⟩,rfl⟩
theorem up_cell{w:World}{b o:Nat}{v:Value}(hb:b<w.heap.size)(h:w.cell? ⟨b,o,none⟩=some v):∀p:Up w,p.W.cell? ⟨b,o,none⟩=some v:=fun p=>(p.h.cell (p:=⟨b,o,none⟩) hb).trans h
theorem specThr_v(t:ThrV)(w:World)(ht:t.at w):
 Calls Tryz.prog 45 #[t.val] w fun e w'=>e= .returned (.bool (thrOkV t))∧Below w.heap.size w w':=specThr_any _ _ _ _ _ _ _ _ _ _ _ _ _ _ _ _ _ _ w ht.1.1 ht.2.1.1 ht.2.2.1 ht.1.2 ht.2.1.2 ht.2.2.2
theorem kerOk_no{k:KerV}(ht:thrsOk k.tn k.T=true)(h1:1≤k.on)(h2:k.on≤271){q:Nat}(hq:q<k.on)(h:spAt k q=false):kerOk k=false:=by
 rw[kerOk_sp ht h1 h2,all_at hq h];rfl
def ObjV.blk'(t:ObjV):Obj:= .cells #[.int .i64 t.id,.int .i64 t.kind,.int .i64 t.up,.int .i64 t.b1,.slice t.c1.a t.c1.n t.c1.k,.string t.data,.slice t.items.a t.items.n t.items.k,.slice t.own.a t.own.n t.own.k,.int .i64 t.b2,.slice t.c2.a t.c2.n t.c2.k] 42
theorem l3Object_p(t:ObjV)(w:World)(ht:t.at w):
 Calls Tryz.prog 46 #[.agg #[.int .i64 t.id,.int .i64 t.kind,.int .i64 t.up,.int .i64 t.b1,.slice t.c1.a t.c1.n t.c1.k,.string t.data,.slice t.items.a t.items.n t.items.k,.slice t.own.a t.own.n t.own.k,.int .i64 t.b2,.slice t.c2.a t.c2.n t.c2.k]] w fun e w'=>e= .returned (.bool (objOk t))∧Below w.heap.size w w':=l3Object_any t w ht
theorem specKer_any(k:KerV)(w:World)(hk:k.at w)(hw:∀i,i<k.on→(Lit.int .i64 (k.O i).id).wf=true):
 Calls Tryz.prog 14 #[k.val] w fun e w'=>e= .returned (.bool (kerOk k))∧Below w.heap.size w w':=by
 have hb0:=(Below.refl _ w).alloc (Nat.le_refl _) (.cells #[.slice k.ta k.tn k.tk,.slice k.oa k.on k.ok] 27);have A0:=Blk.new w (.cells #[.slice k.ta k.tn k.tk,.slice k.oa k.on k.ok] 27);have HK:=hid hk;have HW:=hid hw;have m1:=hk.1;have m2:=hk.2.1;unfold maxLen at m1 m2;unfold KerV.val;obtain⟨x0,x1⟩:=A0.two;clear hk hw;by_cases h1:k.tn<1
 ·have h1':(k.tn:Int)<1:=by omega
  go_enter Tryz.func14,Tryz.ntmps14
  go_wp2;go_ret;have e:k.tn=0:=by omega
  exact⟨ret_bool (kerOk_thr (by simp[thrsOk,e])).symm,hb0⟩
 have h1':¬(k.tn:Int)<1:=by omega
 by_cases h2:9<k.tn
 ·have h2':(9:Int)<(k.tn:Int):=by omega
  go_enter Tryz.func14,Tryz.ntmps14
  go_wp2;go_ret;have:decide (k.tn≤9)=false:=by simp;omega
  exact⟨ret_bool (kerOk_thr (by simp[thrsOk,this])).symm,hb0⟩
 have h2':¬(9:Int)<(k.tn:Int):=by omega
 by_cases h3:k.on<1
 ·have h3':(k.on:Int)<1:=by omega
  go_enter Tryz.func14,Tryz.ntmps14
  go_wp2;go_ret;exact⟨ret_bool (kerOk_few (by omega)).symm,hb0⟩
 have h3':¬(k.on:Int)<1:=by omega
 by_cases h4:271<k.on
 ·have h4':(271:Int)<(k.on:Int):=by omega
  go_enter Tryz.func14,Tryz.ntmps14
  go_wp2;go_ret;exact⟨ret_bool (kerOk_few (by omega)).symm,hb0⟩
 have h4':¬(271:Int)<(k.on:Int):=by omega
 obtain⟨tb,toff,eta,_,_⟩:=HK.out.2.2.1 (by omega);obtain⟨ob,ooff,eoa,_,_⟩:=HK.out.2.2.2 (by omega);rw[eta,eoa]at A0 hb0 x0 x1;rw[eta,eoa];have ETA:=hid eta;have EOA:=hid eoa;clear eta eoa;go_enter Tryz.func14,Tryz.ntmps14
 go_wp2;clear x0 x1 h1' h2' h3' h4';generalize w.alloc (.cells #[.slice (some ⟨tb,toff,none⟩) k.tn k.tk,.slice (some ⟨ob,ooff,none⟩) k.on k.ok] 27)=W at *;go_loopw [3] (fun i wr=>∃q:Nat,q≤k.tn∧i= .int .i64 q∧Hid (∀j,j<q→thrAt k.T j=true)∧Blk wr w.heap.size (.cells #[.slice (some ⟨tb,toff,none⟩) k.tn k.tk,.slice (some ⟨ob,ooff,none⟩) k.on k.ok] 27)∧Below w.heap.size w wr) (fun i _=>k.tn-(intOf i).toNat)
 case atStart=>exact⟨0,Nat.zero_le _,rfl,hid (fun j hj=>by omega),A0,hb0⟩
 case round=>
  obtain⟨q,hq,rfl,HA,A,hB⟩:=hrel;clear A0 hb0;obtain⟨x0,x1⟩:=A.two;by_cases hlt:q<k.tn
  ·obtain⟨b,off,ea,hlt0,hcc⟩:=HK.out.2.2.1.below hB (by omega);obtain⟨⟨q0,q1,q2,q3,q4,q5,q6⟩,ht⟩:=hcc q hlt;rw[ETA.out]at ea;cases ea;have i0:(0:Int)≤(q:Int):=(by omega);have i1:(q:Int)<(k.tn:Int):=(by omega);have pl:=A.lt;have y0:=up_cell pl x0;have u0:=up_cell hlt0 q0;have u1:=up_cell hlt0 q1;have u2:=up_cell hlt0 q2;have u3:=up_cell hlt0 q3;have u4:=up_cell hlt0 q4;have u5:=up_cell hlt0 q5;have u6:=up_cell hlt0 q6;have F:Hid (∀p:Up wr,Calls Tryz.prog 45 #[(k.T q).val] p.W fun e w'=>e= .returned (.bool (thrOkV (k.T q)))∧Below p.W.heap.size p.W w'):=hid (fun p=>specThr_v (k.T q) p.W (ht.below p.h));unfold ThrV.val at F;cases t1:thrOkV (k.T q)with
   |false=>
    rw[t1]at F;clear hcc ht q0 q1 q2 q3 q4 q5 q6 HA;go_wp2;refine wp_region_quiet_up (by kernel_rfl) (by kernel_rfl) ?_;repeat(go_big_quiet_step (first|(go_at_call 45;exact up_of (F.out _))))
    refine wpQuiet_nil ?_;rintro _ ⟨p,rfl⟩;go_wp2;go_ret;exact⟨ret_bool (kerOk_thr (by rw[thrsOk,all_at hlt (by simp[thrAt,t1])];simp)).symm,then_ hB p.h⟩
   |true=>
    rw[t1]at F;by_cases k0:q=0
    ·subst k0;simp only[Nat.zero_mul,Nat.add_zero]at u0 u1 u2 u3 u4 u5 u6;clear hcc ht q0 q1 q2 q3 q4 q5 q6;go_wp2;refine wp_region_quiet_up (by kernel_rfl) (by kernel_rfl) ?_;repeat(go_big_quiet_step (first|(go_at_call 45;exact up_of (F.out _))))
     refine wpQuiet_nil ?_;rintro _ ⟨p,rfl⟩;go_wp2;exact⟨⟨0+1,by omega,rfl,hid (fun j hj=>by
      obtain rfl:j=0:=by omega
      simp[thrAt,t1]),A.below p.h,then_ hB p.h⟩,by simp[intOf];omega⟩
    ·obtain⟨m,rfl⟩:∃m,q=m+1:=⟨q-1,by omega⟩;have v0:=up_cell hlt0 (hcc m (by omega)).1.c0;have j0:decide ((0:Int)<(m:Int)+1)=true:=decide_eq_true (by omega);have j1:(m:Int)<(k.tn:Int):=(by omega);clear hcc ht q0 q1 q2 q3 q4 q5 q6;by_cases c1:(k.T (m+1)).id≤(k.T m).id
     ·have d1:decide ((k.T (m+1)).id≤(k.T m).id)=true:=decide_eq_true c1;go_wp2;refine wp_region_quiet_up (by kernel_rfl) (by kernel_rfl) ?_;repeat(go_big_quiet_step (first|(go_at_call 45;exact up_of (F.out _))))
      refine wpQuiet_nil ?_;rintro _ ⟨p,rfl⟩;go_wp2;go_ret;refine⟨ret_bool (kerOk_thr ?_).symm,then_ hB p.h⟩;rw[thrsOk,all_at hlt]
      ·simp
      ·have:decide ((k.T m).id<(k.T (m+1)).id)=false:=(by simp;omega);simp[thrAt,this]
     ·have d1:decide ((k.T (m+1)).id≤(k.T m).id)=false:=decide_eq_false c1;go_wp2;refine wp_region_quiet_up (by kernel_rfl) (by kernel_rfl) ?_;repeat(go_big_quiet_step (first|(go_at_call 45;exact up_of (F.out _))))
      refine wpQuiet_nil ?_;rintro _ ⟨p,rfl⟩;go_wp2;refine⟨⟨m+1+1,by omega,by go_num,hid (fun j hj=>?_),A.below p.h,then_ hB p.h⟩,by simp[intOf];omega⟩;by_cases e:j=m+1
      ·subst e;have:decide ((k.T m).id<(k.T (m+1)).id)=true:=(by simp;omega);simp[thrAt,t1,this]
      ·exact HA.out j (by omega)
  ·have e:q=k.tn:=(by omega);have i1:¬(q:Int)<(k.tn:Int):=(by omega);have TO:Hid (thrsOk k.tn k.T=true):=hid (by
    have d1:decide (1≤k.tn)=true:=(by simp;omega);have d2:decide (k.tn≤9)=true:=(by simp;omega);rw[thrsOk,all_yes (by rw[←e];exact HA.out),d1,d2];rfl)
   clear HA e;go_wp2;have on1:1≤k.on:=(by omega);have on2:k.on≤271:=(by omega);clear x0 x1 h1 h2 h3 h4 i1;go_loopw [4] (fun i wr=>∃q:Nat,q≤k.on∧i= .int .i64 q∧Hid (∀j,j<q→spAt k j=true)∧Blk wr w.heap.size (.cells #[.slice (some ⟨tb,toff,none⟩) k.tn k.tk,.slice (some ⟨ob,ooff,none⟩) k.on k.ok] 27)∧Below w.heap.size w wr) (fun i _=>k.on-(intOf i).toNat)
   case atStart=>exact⟨0,Nat.zero_le _,rfl,hid (fun j hj=>by omega),A,hB⟩
   case round=>
    clear hB A;obtain⟨q,hq,rfl,HA,A,hB⟩:=hrel;obtain⟨x0,x1⟩:=A.two;by_cases hlt:q<k.on
    ·obtain⟨_,_,ea,hlt0,hcc⟩:=HK.out.2.2.2.below hB (by omega);rw[EOA.out]at ea;cases ea;obtain⟨⟨q0,q1,q2,q3,q4,q5,q6,q7,q8,q9⟩,ht⟩:=hcc q hlt;simp only[CatL.val,IntL.val,StrL.val]at q4 q6 q7 q9;have i0:(0:Int)≤(q:Int):=(by omega);have i1:(q:Int)<(k.on:Int):=(by omega);have bC:Below wr.heap.size wr (wr.alloc (k.O q).blk'):=(Below.refl _ wr).alloc (Nat.le_refl _) _;have AC:=Blk.new wr (k.O q).blk';have AK:=A.below bC;have BC:=then_ hB bC;have F:Hid (∀p:Up (wr.alloc (k.O q).blk'),Calls Tryz.prog 46 #[.agg #[.int .i64 (k.O q).id,.int .i64 (k.O q).kind,.int .i64 (k.O q).up,.int .i64 (k.O q).b1,.slice (k.O q).c1.a (k.O q).c1.n (k.O q).c1.k,.string (k.O q).data,.slice (k.O q).items.a (k.O q).items.n (k.O q).items.k,.slice (k.O q).own.a (k.O q).own.n (k.O q).own.k,.int .i64 (k.O q).b2,.slice (k.O q).c2.a (k.O q).c2.n (k.O q).c2.k]] p.W fun e w'=>e= .returned (.bool (objOk (k.O q)))∧Below p.W.heap.size p.W w'):=hid (fun p=>l3Object_p (k.O q) p.W ((ht.below bC).below p.h));have PC:Hid (∀m,m<k.on→(wr.alloc (k.O q).blk').cell? ⟨ob,ooff+m*10,none⟩=some (.int .i64 (k.O m).id)):=hid (fun m hm=>(bC.cell (p:=⟨ob,_,none⟩) hlt0).trans (hcc m hm).1.c0);have hlt1:ob<(wr.alloc (k.O q).blk').heap.size:=Nat.lt_of_lt_of_le hlt0 bC.size;unfold ObjV.blk' at F bC AC AK BC PC hlt1;clear hcc ht;go_wp2;clear q0 q1 q2 q3 q4 q5 q6 q7 q8 q9 x0 x1;generalize hW1:wr.alloc (.cells #[.int .i64 (k.O q).id,.int .i64 (k.O q).kind,.int .i64 (k.O q).up,.int .i64 (k.O q).b1,.slice (k.O q).c1.a (k.O q).c1.n (k.O q).c1.k,.string (k.O q).data,.slice (k.O q).items.a (k.O q).items.n (k.O q).items.k,.slice (k.O q).own.a (k.O q).own.n (k.O q).own.k,.int .i64 (k.O q).b2,.slice (k.O q).c2.a (k.O q).c2.n (k.O q).c2.k] 42)=W1 at *;clear hW1;have c0:_=some (Value.int .i64 (k.O q).id):=AC.c0 0 rfl;have y1:=up_cell AK.lt AK.two.2;have y2:=up_cell AC.lt c0;have yc:∀p:Up W1,Blk p.W wr.heap.size (.cells #[.int .i64 (k.O q).id,.int .i64 (k.O q).kind,.int .i64 (k.O q).up,.int .i64 (k.O q).b1,.slice (k.O q).c1.a (k.O q).c1.n (k.O q).c1.k,.string (k.O q).data,.slice (k.O q).items.a (k.O q).items.n (k.O q).items.k,.slice (k.O q).own.a (k.O q).own.n (k.O q).own.k,.int .i64 (k.O q).b2,.slice (k.O q).c2.a (k.O q).c2.n (k.O q).c2.k] 42):=fun p=>AC.below p.h;have yy:∀p:Up W1,p.W.cell? ⟨wr.heap.size,0,none⟩=_∧p.W.cell? ⟨wr.heap.size,1,none⟩=_∧_:=fun p=>(yc p).ten;cases t1:objOk (k.O q)with
     |false=>
      rw[t1]at F;refine wp_region_quiet_up (by kernel_rfl) (by kernel_rfl) ?_;repeat(go_big_quiet_step (first|(go_at_call 46;exact up_of (F.out _))))
      refine wpQuiet_nil ?_;rintro _ ⟨p,rfl⟩;go_wp2;go_ret;exact⟨ret_bool (kerOk_no TO.out on1 on2 hlt (by simp[spAt,t1])).symm,then_ BC p.h⟩
     |true=>
      rw[t1]at F;by_cases k0:q=0
      ·subst k0;have OK:Hid (spAt k 0=rootB (k.O 0)):=hid (by simp[spAt,t1]);have e00:(((0:Nat):Int)==0)=true:=rfl;refine wp_region_quiet_up (by kernel_rfl) (by kernel_rfl) ?_;repeat(go_big_quiet_step (first|(go_at_call 46;exact up_of (F.out _))))
       refine wpQuiet_nil ?_;rintro _ ⟨p,rfl⟩;obtain⟨z0,z1,z2,_⟩:=yy p;have BP:=then_ BC p.h;have AP:=AK.below p.h;clear F y1 y2 yc yy c0 PC AC AK;go_wp2;all_goals
        first
        |(go_ret
          exact⟨ret_bool (kerOk_no TO.out on1 on2 hlt (by rw[OK.out];simp_all[rootB])).symm,BP⟩)
        |(have OK2:Hid (spAt k 0=true):=hid (by rw[OK.out];simp_all[rootB])
          exact⟨⟨0+1,by omega,rfl,hid (fun j hj=>by
           obtain rfl:j=0:=by omega
           exact OK2.out),AP,BP⟩,by simp[intOf];omega⟩)
      ·obtain⟨m,rfl⟩:∃m,q=m+1:=⟨q-1,by omega⟩;have v0:=up_cell hlt1 (PC.out m (by omega));have j0:decide ((0:Int)<(m:Int)+1)=true:=decide_eq_true (by omega);have j1:(m:Int)<(k.on:Int):=(by omega);by_cases c1:(k.O (m+1)).id≤(k.O m).id
       ·have d1:decide ((k.O (m+1)).id≤(k.O m).id)=true:=decide_eq_true c1;refine wp_region_quiet_up (by kernel_rfl) (by kernel_rfl) ?_;repeat(go_big_quiet_step (first|(go_at_call 46;exact up_of (F.out _))))
        refine wpQuiet_nil ?_;rintro _ ⟨p,rfl⟩;go_wp2;go_ret;have:decide ((k.O m).id<(k.O (m+1)).id)=false:=(by simp;omega);exact⟨ret_bool (kerOk_no TO.out on1 on2 hlt (by simp[spAt,this])).symm,then_ BC p.h⟩
       ·have d1:decide ((k.O (m+1)).id≤(k.O m).id)=false:=decide_eq_false c1;have lt1:(k.O m).id<(k.O (m+1)).id:=(by omega);have OK:Hid (spAt k (m+1)=(numAt k.tn k.T (k.O (m+1)).id&&boxAt k.on k.O (k.O (m+1)).up)):=hid (by
         have:decide ((k.O m).id<(k.O (m+1)).id)=true:=(by simp;omega);simp[spAt,t1,this])
        have hp:1≤(k.O (m+1)).id:=sp_pos HA.out (by omega) (by simpa using lt1);refine wp_region_quiet_up (by kernel_rfl) (by kernel_rfl) ?_;repeat(go_big_quiet_step (first|(go_at_call 46;exact up_of (F.out _))))
        refine wpQuiet_nil ?_;rintro _ ⟨p,rfl⟩;have BP:=then_ BC p.h;have AP:=AK.below p.h;have CP:=AC.below p.h;clear F y1 y2 yc yy c0 PC AC AK v0 d1 c1 lt1 j0 t1;have hwb:=wf_bounds (HW.out (m+1) hlt);have ed:wrap64 ((k.O (m+1)).id.tdiv 1000)=(k.O (m+1)).id/1000:=by
         rw[Int.tdiv_eq_ediv_of_nonneg (by omega)];unfold wrap64;omega
        have F35:=hid (l3Thread_any k ((k.O (m+1)).id/1000) p.W (HK.out.below BP));unfold KerV.val at F35;rw[ETA.out,EOA.out]at F35;obtain⟨z0,z1,z2,_⟩:=CP.ten;obtain⟨g0,g1⟩:=AP.two;have em:((m:Int)+1==0)=false:=(by simp;omega);clear hwb;go_wp2_with fail
        refine F35.out.mono ?_;rintro e w5 ⟨rfl,hb5⟩;have B5:=then_ BP hb5;have A5:=AP.below hb5;have C5:=CP.below hb5;have F36:=hid (l3Find_any k (k.O (m+1)).up w5 (HK.out.below B5));unfold KerV.val at F36;rw[ETA.out,EOA.out]at F36;clear z0 z1 z2 g0 g1 AP CP F35 hb5 BP;obtain⟨z0,z1,z2,_⟩:=C5.ten;obtain⟨g0,g1⟩:=A5.two;go_wp2_with fail
        refine F36.out.mono ?_;rintro e w6 ⟨rfl,hb6⟩;have B6:=then_ B5 hb6;have A6:=A5.below hb6;have C6:=C5.below hb6;clear z0 z1 z2 g0 g1 A5 C5 F36 hb6 B5 em ed;go_wp2;have y0:=up_cell A6.lt A6.two.1;have y1:=up_cell A6.lt A6.two.2;have y2:=up_cell C6.lt C6.ten.1;obtain⟨_,_,ea,tlt,tcc⟩:=HK.out.2.2.1.below B6 (by have:=(thrsOk_out TO.out).1;omega);rw[ETA.out]at ea;cases ea;obtain⟨_,_,ea,olt,occ⟩:=HK.out.2.2.2.below B6 (by omega);rw[EOA.out]at ea;cases ea;have TC:=hid tcc;have OC:=hid occ;clear tcc occ;have F37:Hid (∀(a b:Int) (p:Up w6),Calls Tryz.prog 49 #[.int .i64 a,.int .i64 1,.int .i64 b] p.W fun e w'=>e= .returned (.bool (inB a 1 b))∧Below p.W.heap.size p.W w'):=hid (fun a b p=>(l1In_any a 1 b p.W).mono fun _ _ ⟨he,hw⟩=>⟨he,by rw[hw];exact Below.refl _ _⟩);cases ft:findI (fun i=>(k.T i).id) k.tn ((k.O (m+1)).id/1000)with
        |none=>
         have NO:=hid (numAt_none TO.out ft);have d3:decide (idxI none<0)=true:=rfl;have e3:idxI none= -1:=rfl;rw[e3];clear ft d3 e3;refine wp_region_quiet_up (by kernel_rfl) (by kernel_rfl) ?_;repeat(go_big_quiet_step (first|(go_at_call 49;exact up_of (F37.out _ _ _))))
         refine wpQuiet_nil ?_;rintro _ ⟨p,rfl⟩;go_wp2;go_ret;exact⟨ret_bool (kerOk_no TO.out on1 on2 hlt (by rw[OK.out,NO.out];rfl)).symm,then_ B6 p.h⟩
        |some t=>
         obtain⟨tl,_⟩:=findI_some ft;have NO:=hid (numAt_some TO.out ft);have e3:idxI (some t)=(t:Int):=rfl;rw[e3];have t0:decide ((t:Int)<0)=false:=decide_eq_false (by omega);have t0':(0:Int)≤(t:Int):=(by omega);have t1:(t:Int)<(k.tn:Int):=(by omega);have y3:=up_cell tlt (TC.out t tl).1.c6;clear ft e3;cases n1:inB ((k.O (m+1)).id%1000) 1 (k.T t).made with
         |false=>
          rw[n1]at NO;refine wp_region_quiet_up (by kernel_rfl) (by kernel_rfl) ?_;repeat(go_big_quiet_step (first|(go_at_call 49;exact up_of (F37.out _ _ _))))
          refine wpQuiet_nil ?_;rintro _ ⟨p,rfl⟩;go_wp2;go_ret;exact⟨ret_bool (kerOk_no TO.out on1 on2 hlt (by rw[OK.out,NO.out];rfl)).symm,then_ B6 p.h⟩
         |true=>
          rw[n1]at NO;cases fu:findI (fun i=>(k.O i).id) k.on (k.O (m+1)).up with
          |none=>
           have BO:Hid (boxAt k.on k.O (k.O (m+1)).up=false):=hid (by simp[boxAt,fu]);have e3:idxI none= -1:=rfl;rw[e3];clear fu e3;refine wp_region_quiet_up (by kernel_rfl) (by kernel_rfl) ?_;repeat(go_big_quiet_step (first|(go_at_call 49;exact up_of (F37.out _ _ _))))
           refine wpQuiet_nil ?_;rintro _ ⟨p,rfl⟩;go_wp2;go_ret;exact⟨ret_bool (kerOk_no TO.out on1 on2 hlt (by rw[OK.out,BO.out,Bool.and_false])).symm,then_ B6 p.h⟩
          |some u=>
           obtain⟨ul,_⟩:=findI_some fu;have BO:Hid (boxAt k.on k.O (k.O (m+1)).up=((k.O u).kind==3)):=hid (by simp[boxAt,fu]);have e3:idxI (some u)=(u:Int):=rfl;rw[e3];have u0:decide ((u:Int)<0)=false:=decide_eq_false (by omega);have u0':(0:Int)≤(u:Int):=(by omega);have u1:(u:Int)<(k.on:Int):=(by omega);have y4:=up_cell olt (OC.out u ul).1.c1;clear fu e3;cases c3:((k.O u).kind==3)with
           |false=>
            rw[c3]at BO;refine wp_region_quiet_up (by kernel_rfl) (by kernel_rfl) ?_;repeat(go_big_quiet_step (first|(go_at_call 49;exact up_of (F37.out _ _ _))))
            refine wpQuiet_nil ?_;rintro _ ⟨p,rfl⟩;go_wp2;go_ret;exact⟨ret_bool (kerOk_no TO.out on1 on2 hlt (by rw[OK.out,BO.out,Bool.and_false])).symm,then_ B6 p.h⟩
           |true=>
            rw[c3]at BO;refine wp_region_quiet_up (by kernel_rfl) (by kernel_rfl) ?_;repeat(go_big_quiet_step (first|(go_at_call 49;exact up_of (F37.out _ _ _))))
            refine wpQuiet_nil ?_;rintro _ ⟨p,rfl⟩;go_wp2;refine⟨⟨m+1+1,by omega,by go_num,hid (fun j hj=>?_),A6.below p.h,then_ B6 p.h⟩,by simp[intOf];omega⟩;by_cases e:j=m+1
            ·subst e;rw[OK.out,NO.out,BO.out];rfl
            ·exact HA.out j (by omega)
    ·have e:q=k.on:=(by omega);have i1:¬(q:Int)<(k.on:Int):=(by omega);have SP:Hid ((List.range k.on).all (spAt k)=true):=hid (all_yes (by rw[←e];exact HA.out));have OO:Hid (objsOk k.on k.O=true):=hid (by
      have:=spAt_all (k:=k) on1 on2;rw[SP.out]at this;simp only[Bool.and_eq_true]at this;exact this.1.1)
     have UU:Hid (∀c,c<k.on→c≠0→∃u,findI (fun i=>(k.O i).id) k.on (k.O c).up=some u):=hid (fun c hc h0=>by
      have:=all_out SP.out c hc;simp only[spAt,Bool.and_eq_true]at this;rw[if_neg h0]at this;simp only[Bool.and_eq_true]at this;have hb:=this.2.2;unfold boxAt at hb;split at hb
      ·rename_i u hu;exact⟨u,hu⟩
      ·cases hb)
     clear HA e;go_wp2;clear x0 x1 i1;go_loopw [8] (fun i wr=>∃q:Nat,q≤k.on∧i= .int .i64 q∧Hid (∀j,j<q→∃m,m<k.on∧parIt (fun i=>(k.O i).id) (fun i=>(k.O i).up) k.on m j=some 0)∧Blk wr w.heap.size (.cells #[.slice (some ⟨tb,toff,none⟩) k.tn k.tk,.slice (some ⟨ob,ooff,none⟩) k.on k.ok] 27)∧Below w.heap.size w wr) (fun i _=>k.on-(intOf i).toNat)
     case atStart=>exact⟨0,Nat.zero_le _,rfl,hid (fun j hj=>by omega),A,hB⟩
     case round=>
      clear hB A;obtain⟨q,hq,rfl,HA,A,hB⟩:=hrel;obtain⟨x0,x1⟩:=A.two;by_cases hlt:q<k.on
      ·obtain⟨_,_,ea,hlt0,hcc⟩:=HK.out.2.2.2.below hB (by omega);rw[EOA.out]at ea;cases ea;have q0:=(hcc q hlt).1.c0;have i0:(0:Int)≤(q:Int):=(by omega);have i1:(q:Int)<(k.on:Int):=(by omega);clear hcc;go_wp2;clear q0 x0 x1;go_loopw [9,10] (fun at' n wr=>∃c m:Nat,at'= .int .i64 (k.O c).id∧n= .int .i64 m∧c<k.on∧m≤k.on+1∧Hid (parIt (fun i=>(k.O i).id) (fun i=>(k.O i).up) k.on m q=some c)∧Blk wr w.heap.size (.cells #[.slice (some ⟨tb,toff,none⟩) k.tn k.tk,.slice (some ⟨ob,ooff,none⟩) k.on k.ok] 27)∧Below w.heap.size w wr) (fun _ n _=>k.on+2-(intOf n).toNat)
       case atStart=>exact⟨q,0,rfl,rfl,hlt,by omega,hid rfl,A,hB⟩
       case round=>
        clear hB A;obtain⟨c,m,rfl,rfl,hc,hm,HP,A,hB⟩:=hrel;obtain⟨x0,x1⟩:=A.two;by_cases c0:c=0
        ·subst c0;have r1:=(objsOk_root OO.out).1;go_wp2;refine⟨⟨q+1,by omega,by go_num,hid (fun j hj=>?_),A,hB⟩,by simp[intOf];omega⟩;by_cases e:j=q
         ·subst e;exact⟨m,height noCyc_zero hlt HP.out,HP.out⟩
         ·exact HA.out j (by omega)
        ·have r1:¬(k.O c).id=1:=fun e=>c0 ((objsOk_rises OO.out).inj hc (by omega) (by rw[e];exact(objsOk_root OO.out).1.symm));by_cases big:k.on<m
         ·have big':(k.on:Int)<(m:Int):=(by omega);have NR:Hid (reachB (fun i=>(k.O i).id) (fun i=>(k.O i).up) k.on=false):=hid (by
           cases er:reachB (fun i=>(k.O i).id) (fun i=>(k.O i).up) k.on with
           |false=>rfl
           |true=>
            obtain⟨a,ha,ea⟩:=reachB_iff.1 er q hlt;have hp:=HP.out;have e1:m=a+(m-a-1+1):=(by omega);rw[e1,parIt_add,ea,Option.bind_some]at hp;simp[parIt,par]at hp)
          clear HP;go_wp2;go_ret;exact⟨ret_bool (by rw[kerOk_sp TO.out on1 on2,NR.out,Bool.and_false]),hB⟩
         ·have big':¬(k.on:Int)<(m:Int):=(by omega);obtain⟨u,hu⟩:=UU.out c hc c0;obtain⟨ul,ue⟩:=findI_some hu;have HP2:Hid (parIt (fun i=>(k.O i).id) (fun i=>(k.O i).up) k.on (m+1) q=some u):=hid (by
           rw[parIt_succ',HP.out,Option.bind_some];unfold par;rw[if_neg c0];exact hu)
          obtain⟨_,_,ea,olt,occ⟩:=HK.out.2.2.2.below hB (by omega);rw[EOA.out]at ea;cases ea;have y1:=up_cell A.lt x1;have y0:=up_cell A.lt x0;have y3:=up_cell olt (occ c hc).1.c2;have F36:Hid (∀p:Up wr,Calls Tryz.prog 48 #[k.val,.int .i64 (k.O c).id] p.W fun e w'=>e= .returned (.int .i64 (c:Int))∧Below p.W.heap.size p.W w'):=hid (fun p=>by
           have:=l3Find_any k (k.O c).id p.W (HK.out.below (then_ hB p.h));rw[findI_eq (objsOk_rises OO.out) hc]at this;exact this)
          unfold KerV.val at F36;rw[ETA.out,EOA.out]at F36;have UE:=hid ue;have n0:(0:Int)≤(c:Int):=(by omega);have n1:(c:Int)<(k.on:Int):=(by omega);clear HP hu ue occ;go_wp2;refine wp_region_quiet_up (by kernel_rfl) (by kernel_rfl) ?_;repeat(go_big_quiet_step (first|(go_at_call 48;exact up_of (F36.out _))))
          refine wpQuiet_nil ?_;rintro _ ⟨p,rfl⟩;go_wp2;exact⟨⟨u,m+1,by rw[←UE.out],by go_num,ul,by omega,HP2,A.below p.h,then_ hB p.h⟩,by simp[intOf];omega⟩
      ·have e:q=k.on:=(by omega);have i1:¬(q:Int)<(k.on:Int):=(by omega);have RR:Hid (reachB (fun i=>(k.O i).id) (fun i=>(k.O i).up) k.on=true):=hid (reachB_iff.2 (by rw[←e];rw[e]at HA ⊢;exact HA.out));clear HA e;go_wp2;go_ret;exact⟨ret_bool (by rw[kerOk_sp TO.out on1 on2,SP.out,RR.out];rfl),hB⟩
end Go.Proofs.YtbacmamplkdgaaaGreatDoor
