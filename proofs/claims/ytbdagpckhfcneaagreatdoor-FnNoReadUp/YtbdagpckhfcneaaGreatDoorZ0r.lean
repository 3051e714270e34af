import Derived.Test.YtbdagpckhfcneaaGreatDoorProg
import Derived.WalkKit
import Derived.WalkSpells
import Derived.WalkLawsBesides
import Derived.Below
import Derived.Deep.OwnRows
import Derived.Deep.RegionHeld3
import Derived.Deep.QuietTactic
import Derived.BigQuiet
import Derived.Lib.ConvBytes
set_option maxHeartbeats 1000000
namespace Go.Proofs.YtbdagpckhfcneaaGreatDoor
open Go.RowKit Go.Proofs.Tryz
variable {x lo hi:Int}
instance:Coe World Nat:=⟨fun w=>w.heap.size⟩
instance:Coe Int Value:=⟨.int .i64⟩
structure Nw(x:World):Type
instance:Coe Nat (Option Addr):=⟨fun b=>some ⟨b,0,none⟩⟩
theorem nr{n:Nat}:n<=n:=Nat.le_refl _
theorem Bd(w:World)(o:Obj):Below w w (w.alloc o):=(Below.refl _ w).alloc (Nat.le_refl _) o
structure No(x:Obj):Type
structure Na(x:Array Value):Type
structure Nv(x:Value):Type
instance {x:World}:CoeOut (Nw x) World:=⟨fun _=>x⟩
instance {x:Obj}:CoeOut (No x) Obj:=⟨fun _=>x⟩
instance {x:Array Value}:CoeOut (Na x) (Array Value):=⟨fun _=>x⟩
instance {x:Value}:CoeOut (Nv x) Value:=⟨fun _=>x⟩
theorem Ah{a b:Bool}(h:a=b):Ending.returned (.bool a)= .returned (.bool b):=by rw[h]
theorem Ew{k:IntKind}{a b:Int}(h:a=b):Ending.returned (.int k a)= .returned (.int k b):=by rw[h]
theorem Js{W w1:World}(hb:Below W W w1):(∀b o,b<W.heap.size->w1.cell? ⟨b,o,none⟩=W.cell? ⟨b,o,none⟩)/\(∀b o,b<W.heap.size->w1.frozen? ⟨b,o,none⟩=W.frozen? ⟨b,o,none⟩):=
 ⟨fun b o h=>hb.cell (p:=⟨b,o,none⟩) h,fun b o h=>hb.frozen (p:=⟨b,o,none⟩) h⟩
def DZ(x lo hi:Int):Bool:=decide (lo<=x)&&decide (x<=hi)
theorem Kq(h:lo<=x):DZ x lo hi=decide (x<=hi):=by simp[DZ,h]
theorem M4(h:x<lo):DZ x lo hi=false:=by simp[DZ];omega
theorem Cd(x lo hi:Int)(w:World):
 Calls prog 75 #[.int .i64 x,.int .i64 lo,.int .i64 hi] w fun e w'=>e= .returned (.bool (DZ x lo hi))/\w'=w:=by
 go_enter func75,ntmps75
 go_wp2
 ·go_ret;exact⟨Ah (Kq ‹_›).symm,rfl⟩
 ·go_ret;exact⟨Ah (M4 ‹_›).symm,rfl⟩
theorem Hs(x:Int)(w:World):
 Calls prog 85 #[.int .i64 x] w fun e w'=>e= .returned (.bool (DZ x 1 9999))/\w'=w:=by
 go_enter func85,ntmps85
 go_wp2
 ·go_ret;exact⟨Ah (Kq ‹_›).symm,rfl⟩
 ·go_ret;exact⟨Ah (M4 ‹_›).symm,rfl⟩
theorem Gl(x:Int)(w:World):
 Calls prog 84 #[.int .i64 x] w fun e w'=>e= .returned (.bool (DZ x 0 3))/\w'=w:=by
 go_enter func84,ntmps84
 go_wp2
 ·go_ret;exact⟨Ah (Kq ‹_›).symm,rfl⟩
 ·go_ret;exact⟨Ah (M4 ‹_›).symm,rfl⟩
open Go.Deep
variable {w w':World}{n b:Nat}{f g:Nat->Int}
theorem Tryz.info95:(prog.info? 95).map (fun i=>(i.zero,i.size,i.bytes))=some (some (.agg #[.int .i64 0,.int .i64 0]),2,16):=by kernel_rfl
def Dd(f g:Nat->Int)(j:Nat):Value:=if j%2=0 then .int .i64 (f (j/2))else .int .i64 (g (j/2))
def AX(w:World)(a:Option Addr)(n:Nat)(f g:Nat->Int):Prop:=
 0<n->∃b off,a=some ⟨b,off,none⟩/\b<w.heap.size/\∀i,i<n->w.cell? ⟨b,off+i*2,none⟩=some (.int .i64 (f i))/\w.cell? ⟨b,off+i*2+1,none⟩=some (.int .i64 (g i))
theorem AX.below{a:Option Addr}(h:AX w a n f g)(hb:Below w w w'):AX w' a n f g:=fun hn=>by
 obtain⟨b,off,rfl,hlt,hc⟩:=h hn;obtain⟨h1,_⟩:=Js hb;exact⟨b,off,rfl,Nat.lt_of_lt_of_le hlt hb.size,fun i hi=>by rw[h1 _ _ hlt,h1 _ _ hlt];exact hc i hi⟩
theorem AX.row(h:w.rowIs b 95 (n*2) (Dd f g)):AX w (some ⟨b,0,none⟩) n f g:=fun _=>by
 refine⟨b,0,rfl,h.lt,fun i hi=>⟨?_,?_⟩⟩
 ·have:=h.cell (i:=0+i*2) (by omega);rw[this];have e1:(0+i*2)%2=0:=by omega
  have e2:(0+i*2)/2=i:=by omega
  simp only[Dd,e1,e2,if_true]
 ·have:=h.cell (i:=0+i*2+1) (by omega);rw[this];have e1:¬(0+i*2+1)%2=0:=by omega
  have e2:(0+i*2+1)/2=i:=by omega
  simp only[Dd,e2,if_neg e1]
theorem World.rowIs.below{B:Nat}{t:TypeId}{f:Nat->Value}(h:w.rowIs b t n f)(hb:Below B w w')(hB:b<B):w'.rowIs b t n f:=
 h.of_block (hb.block b hB)

variable {base:Int}{n k:Nat}{f g:Nat->Int}
def Dm(base:Int)(f g:Nat->Int)(i:Nat):Bool:=DZ (f i) 1 9999&&DZ (g i) 0 3&& !(g i==base)&&(i==0||decide (f (i-1)<f i))
def Ba(base:Int)(n:Nat)(f g:Nat->Int):Bool:=DZ base 0 3&&decide (n<=12)&&(List.range n).all (Dm base f g)
theorem Nq(h:DZ base 0 3=false):Ba base n f g=false:=by simp[Ba,h]
theorem PX(h:12<n):Ba base n f g=false:=by
 have:decide (n<=12)=false:=by simp;omega
 simp[Ba,this]
theorem Ge(hk:k<n)(h:Dm base f g k=false):Ba base n f g=false:=by
 have:(List.range n).all (Dm base f g)=false:=by
  rw[List.all_eq_false];exact⟨k,List.mem_range.2 hk,by simp[h]⟩
 simp[Ba,this]
theorem Re(hb:DZ base 0 3=true)(hn:n<=12)(h:∀i,i<n->Dm base f g i=true):Ba base n f g=true:=by
 have:(List.range n).all (Dm base f g)=true:=by
  rw[List.all_eq_true];intro i hi;exact h i (List.mem_range.1 hi)
 simp[Ba,this,hb,hn]
theorem Lu(h:Ba base n f g=true):DZ base 0 3=true/\n<=12/\∀i,i<n->Dm base f g i=true:=by
 simp only[Ba,Bool.and_eq_true,decide_eq_true_eq,List.all_eq_true,List.mem_range]at h;exact⟨h.1.1,h.1.2,h.2⟩
theorem Eg{x lo hi:Int}:DZ x lo hi=true↔lo<=x/\x<=hi:=by simp[DZ]
theorem Wo{i:Nat}:Dm base f g i=true↔(1<=f i/\f i<=9999)/\(0<=g i/\g i<=3)/\g i≠base/\(i=0∨f (i-1)<f i):=by
 simp[Dm,DZ,and_assoc]
def lastOf(f:Nat->Int)(k:Nat):Int:=if k=0 then 0 else f (k-1)
theorem G5(f:Nat->Int)(k:Nat):lastOf f (k+1)=f k:=by simp[lastOf]
theorem Q3(h:DZ (f k) 1 9999=false):Dm base f g k=false:=by simp[Dm,h]
theorem Xa(h0:DZ (f k) 1 9999=true)(h:f k<=lastOf f k):Dm base f g k=false:=by
 have h0:=Eg.1 h0;by_cases e:k=0
 ·subst e;simp[lastOf]at h;omega
 ·simp[lastOf,e]at h;have:decide (f (k-1)<f k)=false:=by simp;omega
  simp[Dm,e,this]
theorem Sr(h:DZ (g k) 0 3=false):Dm base f g k=false:=by simp[Dm,h]
theorem Q6(h:(g k==base)=true):Dm base f g k=false:=by simp[Dm,h]
theorem YY(h1:DZ (f k) 1 9999=true)(h2:¬f k<=lastOf f k)(h3:DZ (g k) 0 3=true)(h4:(g k==base)=false):Dm base f g k=true:=by
 by_cases e:k=0
 ·subst e;simp_all[Dm]
 ·simp[lastOf,e]at h2;simp[Dm,h1,h3,h4,h2]
theorem Ea(base:Int)(a:Option Addr)(n cap:Nat)(f g:Nat->Int)(w:World)(hn:n<=maxLen)(hc:AX w a n f g):
 Calls prog 41 #[.agg #[.int .i64 base,.slice a n cap]] w fun e w'=>e= .returned (.bool (Ba base n f g))/\Below w w w':=by
 unfold maxLen at hn;by_cases hb:DZ base 0 3=true
 ·by_cases h12:12<n
  ·have h12':(12:Int)<(n:Int):=(by omega);go_enter func41,ntmps41
   go_wp2_with(go_at_call 84;refine(Gl _ _).mono ?_;rintro e w' ⟨rfl,rfl⟩)
   go_ret;exact⟨Ah (PX h12).symm,Bd _ _⟩
  ·have h12':¬(12:Int)<(n:Int):=(by omega);have n1:No (.cells #[.int .i64 base,.slice a n cap] 30):=⟨⟩;have hb0:=(Below.refl _ w).alloc nr n1;have hc1:=hc.below hb0;go_enter func41,ntmps41
   go_wp2_with(go_at_call 84;refine(Gl _ _).mono ?_;rintro e w' ⟨rfl,rfl⟩)
   go_loopw [3,19] (fun l i wr=>∃k:Nat,k<=n/\i= .int .i64 k/\l= .int .i64 (lastOf f k)/\(∀j,j<k->Dm base f g j=true)/\Below (w.heap.size+1) (w.alloc n1) wr) (fun _ i _=>n-(intOf i).toNat)
   case atStart=>exact⟨0,Nat.zero_le _,rfl,rfl,fun j hj=>by omega,Below.refl _ _⟩
   case round=>
    obtain⟨k,hk,rfl,rfl,hall,hB⟩:=hrel;have x0:wr.cell? ⟨w,0,none⟩=some (.int .i64 base):=(hB.cell (p:=⟨w,0,none⟩) (by simp)).trans (by simp);have hB':Below w w wr:=hb0.trans (hB.mono (by omega));have zz:w.heap.size<wr.heap.size:=(by have:=hB.size;simp at this;omega);have x1:∀o,(wr.alloc o).cell? ⟨w,0,none⟩=some (.int .i64 base):=fun o=>(((Below.refl _ wr).alloc nr o).cell (p:=⟨w,0,none⟩) zz).trans x0;by_cases hlt':k<n
    ·obtain⟨b,off,rfl,hlt,hcc⟩:=hc (by omega);obtain⟨h1,h2⟩:=hcc k hlt';have g1:wr.cell? ⟨b,off+k*2,none⟩=some (.int .i64 (f k)):=(hB'.cell (p:=⟨b,_,none⟩) hlt).trans h1;have g2:wr.cell? ⟨b,off+k*2+1,none⟩=some (.int .i64 (g k)):=(hB'.cell (p:=⟨b,_,none⟩) hlt).trans h2;clear h1 h2 hcc hc hc1 hb0;have HA:Hid (∀j,j<k->Dm base f g j=true):=hall;clear hall;by_cases t1:DZ (f k) 1 9999=true
     ·go_wp2_with(first|(go_at_call 84;refine(Gl _ _).mono ?_;rintro e w' ⟨rfl,rfl⟩)|(go_at_call 85;refine(Hs _ _).mono ?_;rintro e w' ⟨rfl,rfl⟩))
      ·go_ret;refine⟨Ah (Ge hlt' (Q6 ?_)).symm,hB'.alloc (by omega) _⟩;have t2:lastOf f k<f k:=(by assumption);have t3:f k<=lastOf f k∨(g k==base)=true:=(by assumption);rcases t3 with t3|t3
       ·omega
       ·exact t3
      ·have t2:lastOf f k<f k:=(by assumption);have t3:DZ (g k) 0 3=true:=(by assumption);have t4:lastOf f k<f k/\(g k==base)=false:=(by assumption);go_roundw;case rel=>
        refine⟨k+1,by omega,by go_num,by rw[G5],fun j hj=>?_,hB.alloc (by omega) _⟩;by_cases e:j=k
        ·subst e;exact YY t1 (by omega) t3 t4.2
        ·exact HA.out j (by omega)
       case measure=>simp[intOf];omega
      ·go_ret;have t2:¬DZ (g k) 0 3=true:=(by assumption);exact⟨Ah (Ge hlt' (Sr (by simpa using t2))).symm,hB'.alloc (by omega) _⟩
      ·go_ret;have t2:f k<=lastOf f k:=(by assumption);exact⟨Ah (Ge hlt' (Xa t1 t2)).symm,hB'.alloc (by omega) _⟩
     ·have t1':DZ (f k) 1 9999=false:=(by simpa using t1);clear t1;go_wp2_with(first|(go_at_call 84;refine(Gl _ _).mono ?_;rintro e w' ⟨rfl,rfl⟩)|(go_at_call 85;refine(Hs _ _).mono ?_;rintro e w' ⟨rfl,rfl⟩))
      go_ret;exact⟨Ah (Ge hlt' (Q3 t1')).symm,hB'.alloc (by omega) _⟩
    ·have HA:Hid (∀j,j<k->Dm base f g j=true):=hall;clear hall hc hc1;go_wp2;go_ret;have e:k=n:=(by omega);subst e;exact⟨Ah (Re hb (by omega) HA).symm,hB'⟩
 ·have hb':DZ base 0 3=false:=by simpa using hb
  clear hb;go_enter func41,ntmps41
  go_wp2_with(go_at_call 84;refine(Gl _ _).mono ?_;rintro e w' ⟨rfl,rfl⟩)
  go_ret;exact⟨Ah (Nq hb').symm,Bd _ _⟩
variable {base:Int}{f g:Nat->Int}{k:Nat}
theorem Xs(h0:0<k)(h:f k<=f (k-1)):Dm base f g k=false:=by
 have e:¬k=0:=by omega
 have:decide (f (k-1)<f k)=false:=by simp;omega
 simp[Dm,e,this]
theorem Rj(h1:DZ (f k) 1 9999=true)(h3:DZ (g k) 0 3=true)(h4:(g k==base)=false)(h:k=0∨f (k-1)<f k):Dm base f g k=true:=by
 rcases h with h|h<;>simp_all[Dm]
theorem GK(base:Int)(a:Option Addr)(n cap:Nat)(f g:Nat->Int)(w:World)(hn:n<=maxLen)(hc:AX w a n f g):
 Calls prog 106 #[.agg #[.int .i64 base,.slice a n cap]] w fun e w'=>e= .returned (.bool (Ba base n f g))/\Below w w w':=by
 unfold maxLen at hn;by_cases hb:DZ base 0 3=true
 ·by_cases h12:12<n
  ·have h12':(12:Int)<(n:Int):=(by omega);go_enter func106,ntmps106
   go_wp2_with(go_at_call 75;refine(Cd _ _ _ _).mono ?_;rintro e w' ⟨rfl,rfl⟩)
   go_ret;exact⟨Ah (PX h12).symm,Bd _ _⟩
  ·have h12':¬(12:Int)<(n:Int):=(by omega);have n1:No (.cells #[.int .i64 base,.slice a n cap] 30):=⟨⟩;have hb0:=(Below.refl _ w).alloc nr n1;have hc1:=hc.below hb0;go_enter func106,ntmps106
   go_wp2_with(go_at_call 75;refine(Cd _ _ _ _).mono ?_;rintro e w' ⟨rfl,rfl⟩)
   go_loopw [3] (fun i wr=>∃k:Nat,k<=n/\i= .int .i64 k/\(∀j,j<k->Dm base f g j=true)/\Below (w.heap.size+1) (w.alloc n1) wr) (fun i _=>n-(intOf i).toNat)
   case atStart=>exact⟨0,Nat.zero_le _,rfl,fun j hj=>by omega,Below.refl _ _⟩
   case round=>
    obtain⟨k,hk,rfl,hall,hB⟩:=hrel;have x0:wr.cell? ⟨w,0,none⟩=some (.int .i64 base):=(hB.cell (p:=⟨w,0,none⟩) (by simp)).trans (by simp);have y0:wr.cell? ⟨w,1,none⟩=some (.slice a n cap):=(hB.cell (p:=⟨w,1,none⟩) (by simp)).trans (by simp);have hB':Below w w wr:=hb0.trans (hB.mono (by omega));have zz:w.heap.size<wr.heap.size:=(by have:=hB.size;simp at this;omega);by_cases hlt':k<n
    ·obtain⟨b,off,rfl,hlt,hcc⟩:=hc (by omega);obtain⟨h1,h2⟩:=hcc k hlt';have zb:b<wr.heap.size:=(by omega);have g1:wr.cell? ⟨b,off+k*2,none⟩=some (.int .i64 (f k)):=(hB'.cell (p:=⟨b,_,none⟩) hlt).trans h1;have g2:wr.cell? ⟨b,off+k*2+1,none⟩=some (.int .i64 (g k)):=(hB'.cell (p:=⟨b,_,none⟩) hlt).trans h2;have x1:∀o,(wr.alloc o).cell? ⟨w,0,none⟩=some (.int .i64 base):=fun o=>(((Below.refl _ wr).alloc nr o).cell (p:=⟨w,0,none⟩) zz).trans x0;have y1:∀o,(wr.alloc o).cell? ⟨w,1,none⟩=some (.slice (some ⟨b,off,none⟩) n cap):=fun o=>(((Below.refl _ wr).alloc nr o).cell (p:=⟨w,1,none⟩) zz).trans y0;have i0:(0:Int)<=(k:Int):=(by omega);have i1:(k:Int)<(n:Int):=(by omega);have HA:Hid (∀j,j<k->Dm base f g j=true):=hall;clear h1 h2 hc hc1 hb0 hall;by_cases t1:DZ (f k) 1 9999=true
     ·by_cases t3:DZ (g k) 0 3=true
      ·by_cases t4:(g k==base)=true
       ·have t4':g k=base:=(by simpa using t4);clear t4;go_wp2_with fail
        go_quiet((go_at_call 75;exact Calls.quiet_of_same (Cd _ _ _ _)))
        go_wp2;go_ret;exact⟨Ah (Ge hlt' (Q6 (by simpa using t4'))).symm,below_drewN (hB'.alloc (by omega) _) _⟩
       ·have t4':(g k==base)=false:=(by simpa using t4);clear t4;by_cases k0:k=0
        ·have d0:decide ((0:Int)<(k:Int))=false:=(by simp;omega);have d1:decide (0<k)=false:=(by simp;omega);have K0:Hid (k=0):=k0;clear k0;go_wp2_with fail
         go_quiet((go_at_call 75;exact Calls.quiet_of_same (Cd _ _ _ _)))
         go_wp2;go_roundw;case rel=>
          refine⟨k+1,by omega,by go_num,fun j hj=>?_,below_drewN (hB.alloc (by omega) _) _⟩;by_cases e:j=k
          ·subst e;exact Rj t1 t3 t4' (.inl K0)
          ·exact HA.out j (by omega)
         case measure=>simp[intOf];omega
        ·obtain⟨m,rfl⟩:∃m,k=m+1:=⟨k-1,by omega⟩;have d0:(0:Int)<((m+1:Nat):Int):=(by omega);have q1:∀o,(wr.alloc o).cell? ⟨b,off+m*2,none⟩=some (.int .i64 (f m)):=fun o=>(((Below.refl _ wr).alloc nr o).cell (p:=⟨b,off+m*2,none⟩) zb).trans ((hB'.cell (p:=⟨b,_,none⟩) hlt).trans (hcc m (by omega)).1);have j1:((m:Nat):Int)<(n:Int):=(by omega);clear hcc;by_cases t5:f (m+1)<=f m
         ·have d5:decide (f (m+1)<=f m)=true:=(by simpa using t5);go_wp2_with fail
          go_quiet((go_at_call 75;exact Calls.quiet_of_same (Cd _ _ _ _)))
          go_wp2;go_ret;exact⟨Ah (Ge hlt' (Xs (by omega) t5)).symm,below_drewN (hB'.alloc (by omega) _) _⟩
         ·have d5:decide (f (m+1)<=f m)=false:=(by simpa using t5);go_wp2_with fail
          go_quiet((go_at_call 75;exact Calls.quiet_of_same (Cd _ _ _ _)))
          go_wp2;go_roundw;case rel=>
           refine⟨m+1+1,by omega,by go_num,fun j hj=>?_,below_drewN (hB.alloc (by omega) _) _⟩;by_cases e:j=(m+1)
           ·subst e;exact Rj t1 t3 t4' (.inr (by simpa using t5))
           ·exact HA.out j (by omega)
          case measure=>simp[intOf];omega
      ·have t3':DZ (g k) 0 3=false:=(by simpa using t3);clear t3;go_wp2_with fail
       go_quiet((go_at_call 75;exact Calls.quiet_of_same (Cd _ _ _ _)))
       go_wp2;go_ret;exact⟨Ah (Ge hlt' (Sr t3')).symm,below_drewN (hB'.alloc (by omega) _) _⟩
     ·have t1':DZ (f k) 1 9999=false:=(by simpa using t1);clear t1;go_wp2_with fail
      go_quiet((go_at_call 75;exact Calls.quiet_of_same (Cd _ _ _ _)))
      go_wp2;go_ret;exact⟨Ah (Ge hlt' (Q3 t1')).symm,below_drewN (hB'.alloc (by omega) _) _⟩
    ·have HA:Hid (∀j,j<k->Dm base f g j=true):=hall;clear hall hc hc1;go_wp2;go_ret;have e:k=n:=(by omega);subst e;exact⟨Ah (Re hb (by omega) HA).symm,hB'⟩
 ·have hb':DZ base 0 3=false:=by simpa using hb
  clear hb;go_enter func106,ntmps106
  go_wp2_with(go_at_call 75;refine(Cd _ _ _ _).mono ?_;rintro e w' ⟨rfl,rfl⟩)
  go_ret;exact⟨Ah (Nq hb').symm,Bd _ _⟩
variable {w:World}{n:Nat}{h:Nat->Int}
def Bi(w:World)(a:Option Addr)(n:Nat)(h:Nat->Int):Prop:=
 0<n->∃b off,a=some ⟨b,off,none⟩/\b<w.heap.size/\∀i,i<n->w.cell? ⟨b,off+i,none⟩=some (.int .i64 (h i))
theorem Bi.below{w':World}{a:Option Addr}(hc:Bi w a n h)(hb:Below w w w'):Bi w' a n h:=fun hn=>by
 obtain⟨b,off,rfl,hlt,hc⟩:=hc hn;obtain⟨h1,_⟩:=Js hb;exact⟨b,off,rfl,Nat.lt_of_lt_of_le hlt hb.size,fun i hi=>by rw[h1 _ _ hlt];exact hc i hi⟩
theorem Bi.row{b:Nat}{t:TypeId}(hr:w.rowIs b t n (fun i=> .int .i64 (h i))):Bi w (some ⟨b,0,none⟩) n h:=fun _=>
 ⟨b,0,rfl,hr.lt,fun i hi=>by rw[Nat.zero_add];exact hr.cell hi⟩
theorem Tryz.info2:(prog.info? 2).map (fun i=>(i.zero,i.size,i.bytes))=some (some (.int .i64 0),1,8):=by kernel_rfl
variable {n k:Nat}{h:Nat->Int}
def DT(h:Nat->Int)(i:Nat):Bool:=DZ (h i) 1 9999&&(i==0||decide (h (i-1)<h i))
def Cg(n:Nat)(h:Nat->Int):Bool:=decide (n<=10)&&(List.range n).all (DT h)
theorem Vd(e:10<n):Cg n h=false:=by
 have:decide (n<=10)=false:=by simp;omega
 simp[Cg,this]
theorem J0(hk:k<n)(e:DT h k=false):Cg n h=false:=by
 have:(List.range n).all (DT h)=false:=by
  rw[List.all_eq_false];exact⟨k,List.mem_range.2 hk,by simp[e]⟩
 simp[Cg,this]
theorem Pf(e:∀i,i<n->DT h i=true):Cg n h=decide (n<=10):=by
 have:(List.range n).all (DT h)=true:=by
  rw[List.all_eq_true];intro i hi;exact e i (List.mem_range.1 hi)
 simp[Cg,this]
theorem VG(e:Cg n h=true):n<=10/\∀i,i<n->DT h i=true:=by
 simp only[Cg,Bool.and_eq_true,decide_eq_true_eq,List.all_eq_true,List.mem_range]at e;exact e
theorem RV(e:DZ (h k) 1 9999=false):DT h k=false:=by simp[DT,e]
theorem Xm(h0:DZ (h k) 1 9999=true)(e:h k<=lastOf h k):DT h k=false:=by
 have h0:=Eg.1 h0;by_cases e0:k=0
 ·subst e0;simp[lastOf]at e;omega
 ·simp[lastOf,e0]at e;have:decide (h (k-1)<h k)=false:=by simp;omega
  simp[DT,e0,this]
theorem YK(h1:DZ (h k) 1 9999=true)(h2:lastOf h k<h k):DT h k=true:=by
 by_cases e:k=0
 ·subst e;simp_all[DT]
 ·simp[lastOf,e]at h2;simp[DT,h1,h2]
theorem Xc(h0:0<k)(e:h k<=h (k-1)):DT h k=false:=by
 have e0:¬k=0:=by omega
 have:decide (h (k-1)<h k)=false:=by simp;omega
 simp[DT,e0,this]
theorem Sf(h1:DZ (h k) 1 9999=true)(e:k=0∨h (k-1)<h k):DT h k=true:=by
 rcases e with e|e<;>simp_all[DT]
theorem If(a:Option Addr)(n cap:Nat)(h:Nat->Int)(w:World)(hn:n<=maxLen)(hc:Bi w a n h):
 Calls prog 51 #[.slice a n cap] w fun e w'=>e= .returned (.bool (Cg n h))/\w'=w:=by
 unfold maxLen at hn;by_cases h10:10<n
 ·have h10':(10:Int)<(n:Int):=by omega
  go_enter func51,ntmps51
  go_wp2;go_ret;exact⟨Ah (Vd h10).symm,rfl⟩
 ·have h10':¬(10:Int)<(n:Int):=by omega
  go_enter func51,ntmps51
  go_wp2;go_loop [3,11] (fun l i=>∃k:Nat,k<=n/\i= .int .i64 k/\l= .int .i64 (lastOf h k)/\(∀j,j<k->DT h j=true)) (fun _ i=>n-(intOf i).toNat)
  case atStart=>exact⟨0,Nat.zero_le _,rfl,rfl,fun j hj=>by omega⟩
  case round=>
   obtain⟨k,hk,rfl,rfl,hall⟩:=hrel;have HA:Hid (∀j,j<k->DT h j=true):=hall;clear hall;by_cases hlt':k<n
   ·obtain⟨b,off,rfl,hlt,hcc⟩:=hc (by omega);have g1:=hcc k hlt';clear hcc hc;by_cases t1:DZ (h k) 1 9999=true
    ·go_wp2_with(go_at_call 85;refine(Hs _ _).mono ?_;rintro e w' ⟨rfl,rfl⟩)
     ·go_ret;have t2:h k<=lastOf h k:=(by assumption);exact⟨Ah (J0 hlt' (Xm t1 t2)).symm,rfl⟩
     ·have t2:lastOf h k<h k:=(by assumption);go_round;case rel=>
       refine⟨k+1,by omega,by go_num,by rw[G5],fun j hj=>?_⟩;by_cases e:j=k
       ·subst e;exact YK t1 t2
       ·exact HA.out j (by omega)
      case measure=>simp[intOf];omega
    ·have t1':DZ (h k) 1 9999=false:=(by simpa using t1);clear t1;go_wp2_with(go_at_call 85;refine(Hs _ _).mono ?_;rintro e w' ⟨rfl,rfl⟩)
     go_ret;exact⟨Ah (J0 hlt' (RV t1')).symm,rfl⟩
   ·clear hc;go_wp2;go_ret;have e:k=n:=(by omega);subst e;exact⟨Ah (by rw[Pf HA.out];simp;omega),rfl⟩
theorem Nl(a:Option Addr)(n cap:Nat)(h:Nat->Int)(w:World)(hn:n<=maxLen)(hc:Bi w a n h):
 Calls prog 107 #[.slice a n cap] w fun e w'=>e= .returned (.bool (Cg n h))/\Below w w w':=by
 unfold maxLen at hn;go_enter func107,ntmps107
 go_wp2;go_loopw [3] (fun i wr=>∃k:Nat,k<=n/\i= .int .i64 k/\(∀j,j<k->DT h j=true)/\Below w w wr) (fun i _=>n-(intOf i).toNat)
 case atStart=>exact⟨0,Nat.zero_le _,rfl,fun j hj=>by omega,Below.refl _ _⟩
 case round=>
  obtain⟨k,hk,rfl,hall,hB⟩:=hrel;have HA:Hid (∀j,j<k->DT h j=true):=hall;clear hall;by_cases hlt':k<n
  ·obtain⟨b,off,rfl,hlt,hcc⟩:=hc (by omega);have g1:wr.cell? ⟨b,off+k,none⟩=some (.int .i64 (h k)):=(hB.cell (p:=⟨b,_,none⟩) hlt).trans (hcc k hlt');have i0:(0:Int)<=(k:Int):=(by omega);have i1:(k:Int)<(n:Int):=(by omega);clear hc;by_cases t1:DZ (h k) 1 9999=true
   ·by_cases k0:k=0
    ·have d0:decide ((0:Int)<(k:Int))=false:=(by simp;omega);have d1:decide (0<k)=false:=(by simp;omega);have K0:Hid (k=0):=k0;clear k0 hcc;go_wp2_with fail
     go_quiet((go_at_call 75;exact Calls.quiet_of_same (Cd _ _ _ _)))
     go_wp2;go_roundw;case rel=>
      refine⟨k+1,by omega,by go_num,fun j hj=>?_,below_drewN hB _⟩;by_cases e:j=k
      ·subst e;exact Sf t1 (.inl K0)
      ·exact HA.out j (by omega)
     case measure=>simp[intOf];omega
    ·obtain⟨m,rfl⟩:∃m,k=m+1:=⟨k-1,by omega⟩;have d0:(0:Int)<((m+1:Nat):Int):=(by omega);have q1:wr.cell? ⟨b,off+m,none⟩=some (.int .i64 (h m)):=(hB.cell (p:=⟨b,_,none⟩) hlt).trans (hcc m (by omega));have j1:((m:Nat):Int)<(n:Int):=(by omega);clear hcc;by_cases t5:h (m+1)<=h m
     ·have d5:decide (h (m+1)<=h m)=true:=(by simpa using t5);go_wp2_with fail
      go_quiet((go_at_call 75;exact Calls.quiet_of_same (Cd _ _ _ _)))
      go_wp2;go_ret;exact⟨Ah (J0 hlt' (Xc (by omega) t5)).symm,below_drewN hB _⟩
     ·have d5:decide (h (m+1)<=h m)=false:=(by simpa using t5);go_wp2_with fail
      go_quiet((go_at_call 75;exact Calls.quiet_of_same (Cd _ _ _ _)))
      go_wp2;go_roundw;case rel=>
       refine⟨m+1+1,by omega,by go_num,fun j hj=>?_,below_drewN hB _⟩;by_cases e:j=m+1
       ·subst e;exact Sf t1 (.inr (by simpa using t5))
       ·exact HA.out j (by omega)
      case measure=>simp[intOf];omega
   ·have t1':DZ (h k) 1 9999=false:=(by simpa using t1);clear t1 hcc;go_wp2_with fail
    go_quiet((go_at_call 75;exact Calls.quiet_of_same (Cd _ _ _ _)))
    go_wp2;go_ret;exact⟨Ah (J0 hlt' (RV t1')).symm,below_drewN hB _⟩
  ·clear hc;go_wp2;go_ret;have e:k=n:=(by omega);subst e;exact⟨Ah (by rw[Pf HA.out];exact decide_eq_decide.2 (by omega)),hB⟩
def Dy(id made b1:Int)(n1:Nat)(f1 g1:Nat->Int)(b2:Int)(n2:Nat)(f2 g2:Nat->Int)(n3:Nat)(h:Nat->Int):Bool:=
 DZ id 1 9&&Ba b1 n1 f1 g1&&Ba b2 n2 f2 g2&&Cg n3 h&&DZ made 0 30
theorem Vp{id made b1:Int}{n1:Nat}{f1 g1:Nat->Int}{b2:Int}{n2:Nat}{f2 g2:Nat->Int}{n3:Nat}{h:Nat->Int}(t0:DZ id 1 9=true)(t1:Ba b1 n1 f1 g1=true)(t2:Ba b2 n2 f2 g2=true)(t3:Cg n3 h=true):
 Dy id made b1 n1 f1 g1 b2 n2 f2 g2 n3 h=DZ made 0 30:=by simp[Dy,t0,t1,t2,t3]
theorem RY(id made b1:Int)(a1:Option Addr)(n1 k1:Nat)(f1 g1:Nat->Int)(b2:Int)(a2:Option Addr)(n2 k2:Nat)(f2 g2:Nat->Int)(a3:Option Addr)(n3 k3:Nat)(h:Nat->Int)(w:World)
 (hn1:n1<=maxLen)(hn2:n2<=maxLen)(hn3:n3<=maxLen)(hc1:AX w a1 n1 f1 g1)(hc2:AX w a2 n2 f2 g2)(hc3:Bi w a3 n3 h):
 Calls prog 72 #[.agg #[.int .i64 id,.int .i64 b1,.slice a1 n1 k1,.int .i64 b2,.slice a2 n2 k2,.slice a3 n3 k3,.int .i64 made]] w fun e w'=>e= .returned (.bool (Dy id made b1 n1 f1 g1 b2 n2 f2 g2 n3 h))/\Below w w w':=by
 have hb0:=Bd w (.cells #[.int .i64 id,.int .i64 b1,.slice a1 n1 k1,.int .i64 b2,.slice a2 n2 k2,.slice a3 n3 k3,.int .i64 made] 42);have C1:=hc1.below hb0;have C2:=hc2.below hb0;have C3:=hc3.below hb0;clear hc1 hc2 hc3;by_cases t0:DZ id 1 9=true
 ·skip;go_enter func72,ntmps72
  go_wp2_with(go_at_call 75;refine(Cd _ _ _ _).mono ?_;rintro e w' ⟨rfl,rfl⟩)
  refine(GK _ _ _ _ f1 g1 _ hn1 C1).mono ?_;rintro e w1 ⟨rfl,hb1⟩;obtain⟨q1,_⟩:=Js hb1;have z1:w.heap.size<w1.heap.size:=by have:=hb1.size;simp at this;omega
  have B1:Below w w w1:=hb0.trans (hb1.mono (by simp));by_cases t1:Ba b1 n1 f1 g1=true
  ·go_wp2_with fail
   refine(GK _ _ _ _ f2 g2 _ hn2 (C2.below hb1)).mono ?_;rintro e w2 ⟨rfl,hb2⟩;obtain⟨q2,_⟩:=Js hb2;have z2:w.heap.size<w2.heap.size:=(by have:=hb2.size;omega);have B2:Below w w w2:=B1.trans (hb2.mono (by omega));by_cases t2:Ba b2 n2 f2 g2=true
   ·go_wp2_with fail
    refine(Nl _ _ _ h _ hn3 ((C3.below hb1).below hb2)).mono ?_;rintro e w3 ⟨rfl,hb3⟩;obtain⟨q3,_⟩:=Js hb3;have z3:w.heap.size<w3.heap.size:=(by have:=hb3.size;omega);have B3:Below w w w3:=B2.trans (hb3.mono (by omega));by_cases t3:Cg n3 h=true
    ·go_wp2_with(go_at_call 75;refine(Cd _ _ _ _).mono ?_;rintro e w' ⟨rfl,rfl⟩)
     go_ret;exact⟨Ah (by simp[Dy,t0,t1,t2,t3]),B3⟩
    ·have t3':Cg n3 h=false:=(by simpa using t3);clear t3;go_wp2;go_ret;exact⟨Ah (by simp[Dy,t3']),B3⟩
   ·have t2':Ba b2 n2 f2 g2=false:=(by simpa using t2);clear t2;go_wp2;go_ret;exact⟨Ah (by simp[Dy,t2']),B2⟩
  ·have t1':Ba b1 n1 f1 g1=false:=(by simpa using t1);clear t1;go_wp2;go_ret;exact⟨Ah (by simp[Dy,t1']),B1⟩
 ·have t0':DZ id 1 9=false:=by simpa using t0
  clear t0;go_enter func72,ntmps72
  go_wp2_with(go_at_call 75;refine(Cd _ _ _ _).mono ?_;rintro e w' ⟨rfl,rfl⟩)
  go_ret;exact⟨Ah (by simp[Dy,t0']),hb0⟩
theorem II(id made b1:Int)(a1:Option Addr)(n1 k1:Nat)(f1 g1:Nat->Int)(b2:Int)(a2:Option Addr)(n2 k2:Nat)(f2 g2:Nat->Int)(a3:Option Addr)(n3 k3:Nat)(h:Nat->Int)(w:World)
 (hn1:n1<=maxLen)(hn2:n2<=maxLen)(hn3:n3<=maxLen)(hc1:AX w a1 n1 f1 g1)(hc2:AX w a2 n2 f2 g2)(hc3:Bi w a3 n3 h):
 Calls prog 54 #[.agg #[.int .i64 id,.int .i64 b1,.slice a1 n1 k1,.int .i64 b2,.slice a2 n2 k2,.slice a3 n3 k3,.int .i64 made]] w fun e w'=>e= .returned (.bool (Dy id made b1 n1 f1 g1 b2 n2 f2 g2 n3 h))/\Below w w w':=by
 have hb0:=Bd w (.cells #[.int .i64 id,.int .i64 b1,.slice a1 n1 k1,.int .i64 b2,.slice a2 n2 k2,.slice a3 n3 k3,.int .i64 made] 42);have C1:=hc1.below hb0;have C2:=hc2.below hb0;have C3:=hc3.below hb0;clear hc1 hc2 hc3;by_cases t0:DZ id 1 9=true
 ·obtain⟨s1,s2⟩:=Eg.1 t0;go_enter func54,ntmps54
  go_wp2_with fail
  refine(Ea _ _ _ _ f1 g1 _ hn1 C1).mono ?_;rintro e w1 ⟨rfl,hb1⟩;obtain⟨q1,_⟩:=Js hb1;have z1:w.heap.size<w1.heap.size:=by have:=hb1.size;simp at this;omega
  have B1:Below w w w1:=hb0.trans (hb1.mono (by simp));by_cases t1:Ba b1 n1 f1 g1=true
  ·go_wp2_with fail
   refine(Ea _ _ _ _ f2 g2 _ hn2 (C2.below hb1)).mono ?_;rintro e w2 ⟨rfl,hb2⟩;obtain⟨q2,_⟩:=Js hb2;have z2:w.heap.size<w2.heap.size:=(by have:=hb2.size;omega);have B2:Below w w w2:=B1.trans (hb2.mono (by omega));by_cases t2:Ba b2 n2 f2 g2=true
   ·go_wp2_with fail
    refine(If _ _ _ h _ hn3 ((C3.below hb1).below hb2)).mono ?_;rintro e w3 ⟨rfl,rfl⟩;have B3:=B2;by_cases t3:Cg n3 h=true
    ·go_wp2;all_goals
      go_ret;refine⟨Ah ?_,B3⟩;rw[Vp t0 t1 t2 t3];first|exact(Kq (by assumption)).symm|exact(M4 (by assumption)).symm
    ·have t3':Cg n3 h=false:=(by simpa using t3);clear t3;go_wp2;go_ret;exact⟨Ah (by simp[Dy,t3']),B3⟩
   ·have t2':Ba b2 n2 f2 g2=false:=(by simpa using t2);clear t2;go_wp2;go_ret;exact⟨Ah (by simp[Dy,t2']),B2⟩
  ·have t1':Ba b1 n1 f1 g1=false:=(by simpa using t1);clear t1;go_wp2;go_ret;exact⟨Ah (by simp[Dy,t1']),B1⟩
 ·have t0':DZ id 1 9=false:=by simpa using t0
  clear t0;go_enter func54,ntmps54
  by_cases s1:1<=id
  ·have s2:¬id<=9:=fun s2=>by simp[DZ,s1,s2]at t0'
   go_wp2;go_ret;exact⟨Ah (by simp[Dy,t0']),hb0⟩
  ·go_wp2;go_ret;exact⟨Ah (by simp[Dy,t0']),hb0⟩

variable {W:World}{P:Nat}{o:Obj}
def Ag(W:World)(P:Nat)(o:Obj):Prop:=W.heap[P]? =some o
theorem Ag.new(W:World)(o:Obj):Ag (W.alloc o) W o:=blk_alloc_new _ _
theorem Ag.lt(h:Ag W P o):P<W.heap.size:=(Array.getElem?_eq_some_iff.1 h).1
theorem Ag.alloc(h:Ag W P o)(o':Obj):Ag (W.alloc o') P o:=(blk_alloc_lt _ _ _ h.lt).trans h
theorem Ag.below{W':World}(h:Ag W P o)(hb:Below W W W'):Ag W' P o:=(hb.block P h.lt).trans h
theorem Ag.two{t:Nat}{x y:Value}(h:Ag W P (.cells #[x,y] t)):W.cell? ⟨P,0,none⟩=some x/\W.cell? ⟨P,1,none⟩=some y:=by
 unfold Ag at h;simp[World.cell?,h]
variable {w w':World}
theorem hid{p:Prop}(h:p):Hid p:=h
theorem Af{a b:World}(h:Below w w a)(k:Below a a b):Below w w b:=h.trans (k.mono h.size)
structure Aq where
 a:Option Addr
 n:Nat
 k:Nat
 f:Nat->Int
 g:Nat->Int
structure AH where
 a:Option Addr
 n:Nat
 k:Nat
 h:Nat->Int
def Aq.at(w:World)(c:Aq):Prop:=c.n<=maxLen/\AX w c.a c.n c.f c.g
def AH.at(w:World)(c:AH):Prop:=c.n<=maxLen/\Bi w c.a c.n c.h
def Aq.val(c:Aq):Value:= .slice c.a c.n c.k
def AH.val(c:AH):Value:= .slice c.a c.n c.k
instance:Coe Aq Value:=⟨fun c=>.slice c.a c.n c.k⟩
instance:Coe AH Value:=⟨fun c=>.slice c.a c.n c.k⟩
structure Ae where
 id:Int
 b1:Int
 c1:Aq
 b2:Int
 c2:Aq
 own:AH
 made:Int
instance:Coe Ae (Array Value):=⟨fun t=>#[t.id,t.b1,.slice t.c1.a t.c1.n t.c1.k,t.b2,.slice t.c2.a t.c2.n t.c2.k,.slice t.own.a t.own.n t.own.k,t.made]⟩
def Ae.val(t:Ae):Value:= .agg #[t.id,t.b1,t.c1.val,t.b2,t.c2.val,t.own.val,t.made]
def Ae.at(w:World)(t:Ae):Prop:=t.c1.at w/\t.c2.at w/\t.own.at w
theorem Aq.at.below{c:Aq}(h:c.at w)(hb:Below w w w'):c.at w':=⟨h.1,h.2.below hb⟩
theorem AH.at.below{c:AH}(h:c.at w)(hb:Below w w w'):c.at w':=⟨h.1,h.2.below hb⟩
theorem Ae.at.below{t:Ae}(h:t.at w)(hb:Below w w w'):t.at w':=⟨h.1.below hb,h.2.1.below hb,h.2.2.below hb⟩
structure E9(w:World)(b o:Nat)(t:Ae):Prop where
 c0:w.cell? ⟨b,o,none⟩=some (.int .i64 t.id)
 c1:w.cell? ⟨b,o+1,none⟩=some (.int .i64 t.b1)
 c2:w.cell? ⟨b,o+2,none⟩=some t.c1.val
 c3:w.cell? ⟨b,o+3,none⟩=some (.int .i64 t.b2)
 c4:w.cell? ⟨b,o+4,none⟩=some t.c2.val
 c5:w.cell? ⟨b,o+5,none⟩=some t.own.val
 c6:w.cell? ⟨b,o+6,none⟩=some (.int .i64 t.made)
theorem E9.below{b o:Nat}{t:Ae}(h:E9 w b o t)(hl:b<w.heap.size)(hb:Below w w w'):E9 w' b o t:=
 ⟨(hb.cell (p:=⟨b,o,none⟩) hl).trans h.c0,(hb.cell (p:=⟨b,o+1,none⟩) hl).trans h.c1,(hb.cell (p:=⟨b,o+2,none⟩) hl).trans h.c2,(hb.cell (p:=⟨b,o+3,none⟩) hl).trans h.c3,(hb.cell (p:=⟨b,o+4,none⟩) hl).trans h.c4,(hb.cell (p:=⟨b,o+5,none⟩) hl).trans h.c5,(hb.cell (p:=⟨b,o+6,none⟩) hl).trans h.c6⟩
def Ic(w:World)(a:Option Addr)(n:Nat)(T:Nat->Ae):Prop:=
 0<n->∃b off,a=some ⟨b,off,none⟩/\b<w.heap.size/\∀i,i<n->E9 w b (off+i*7) (T i)/\(T i).at w
theorem Ic.below{a:Option Addr}{n:Nat}{T:Nat->Ae}(h:Ic w a n T)(hb:Below w w w'):Ic w' a n T:=fun hn=>by
 obtain⟨b,off,e,hlt,hc⟩:=h hn;exact⟨b,off,e,Nat.lt_of_lt_of_le hlt hb.size,fun i hi=>⟨(hc i hi).1.below hlt hb,(hc i hi).2.below hb⟩⟩
def Ae.small(t:Ae):Prop:=t.c1.n<=1048576/\t.c2.n<=1048576/\t.own.n<=1048576
variable {w w':World}{a:Option Addr}{n:Nat}
def EJ(w:World)(a:Option Addr)(n:Nat)(f:Nat->ByteArray):Prop:=0<n->∃b off,a=some ⟨b,off,none⟩/\b<w.heap.size/\∀i,i<n->w.cell? ⟨b,off+i,none⟩=some (.string (f i))
theorem EJ.below{f:Nat->ByteArray}(h:EJ w a n f)(hb:Below w w w'):EJ w' a n f:=fun hn=>by
 obtain⟨b,off,e,hlt,hc⟩:=h hn;exact⟨b,off,e,Nat.lt_of_lt_of_le hlt hb.size,fun i hi=>(hb.cell (p:=⟨b,off+i,none⟩) hlt).trans (hc i hi)⟩
structure Aw where
 a:Option Addr
 n:Nat
 k:Nat
 f:Nat->ByteArray
def Aw.at(w:World)(c:Aw):Prop:=c.n<=maxLen/\EJ w c.a c.n c.f/\∀i,i<c.n->(c.f i).size<=maxLen
def Aw.val(c:Aw):Value:= .slice c.a c.n c.k
theorem Aw.at.below{c:Aw}(h:c.at w)(hb:Below w w w'):c.at w':=⟨h.1,h.2.1.below hb,h.2.2⟩
def Aw.small(c:Aw):Prop:=c.n<=1048576/\∀i,i<c.n->(c.f i).size<=1048576
instance:Coe Aw Value:=⟨fun c=>.slice c.a c.n c.k⟩
structure Ab where
 id:Int
 kind:Int
 up:Int
 b1:Int
 c1:Aq
 data:ByteArray
 jA:Aw
 own:AH
 b2:Int
 c2:Aq
instance:Coe Ab (Array Value):=⟨fun t=>#[t.id,t.kind,t.up,t.b1,.slice t.c1.a t.c1.n t.c1.k,.string t.data,.slice t.jA.a t.jA.n t.jA.k,.slice t.own.a t.own.n t.own.k,t.b2,.slice t.c2.a t.c2.n t.c2.k]⟩
def Ab.val(t:Ab):Value:= .agg #[t.id,t.kind,t.up,t.b1,t.c1.val,.string t.data,t.jA.val,t.own.val,t.b2,t.c2.val]
def Ab.at(w:World)(t:Ab):Prop:=t.c1.at w/\t.jA.at w/\t.own.at w/\t.c2.at w/\t.data.size<=maxLen
theorem Ab.at.below{t:Ab}(h:t.at w)(hb:Below w w w'):t.at w':=⟨h.1.below hb,h.2.1.below hb,h.2.2.1.below hb,h.2.2.2.1.below hb,h.2.2.2.2⟩
def Ab.small(t:Ab):Prop:=t.c1.n<=1048576/\t.data.size<=1048576/\t.jA.small/\t.own.n<=1048576/\t.c2.n<=1048576
structure Cy(w:World)(b o:Nat)(t:Ab):Prop where
 c0:w.cell? ⟨b,o,none⟩=some (.int .i64 t.id)
 c1:w.cell? ⟨b,o+1,none⟩=some (.int .i64 t.kind)
 c2:w.cell? ⟨b,o+2,none⟩=some (.int .i64 t.up)
 c3:w.cell? ⟨b,o+3,none⟩=some (.int .i64 t.b1)
 c4:w.cell? ⟨b,o+4,none⟩=some t.c1.val
 c5:w.cell? ⟨b,o+5,none⟩=some (.string t.data)
 c6:w.cell? ⟨b,o+6,none⟩=some t.jA.val
 c7:w.cell? ⟨b,o+7,none⟩=some t.own.val
 c8:w.cell? ⟨b,o+8,none⟩=some (.int .i64 t.b2)
 c9:w.cell? ⟨b,o+9,none⟩=some t.c2.val
theorem Cy.below{b o:Nat}{t:Ab}(h:Cy w b o t)(hl:b<w.heap.size)(hb:Below w w w'):Cy w' b o t:=
 ⟨(hb.cell (p:=⟨b,o,none⟩) hl).trans h.c0,(hb.cell (p:=⟨b,o+1,none⟩) hl).trans h.c1,(hb.cell (p:=⟨b,o+2,none⟩) hl).trans h.c2,(hb.cell (p:=⟨b,o+3,none⟩) hl).trans h.c3,(hb.cell (p:=⟨b,o+4,none⟩) hl).trans h.c4,(hb.cell (p:=⟨b,o+5,none⟩) hl).trans h.c5,(hb.cell (p:=⟨b,o+6,none⟩) hl).trans h.c6,(hb.cell (p:=⟨b,o+7,none⟩) hl).trans h.c7,(hb.cell (p:=⟨b,o+8,none⟩) hl).trans h.c8,(hb.cell (p:=⟨b,o+9,none⟩) hl).trans h.c9⟩
def Hi(w:World)(a:Option Addr)(n:Nat)(T:Nat->Ab):Prop:=
 0<n->∃b off,a=some ⟨b,off,none⟩/\b<w.heap.size/\∀i,i<n->Cy w b (off+i*10) (T i)/\(T i).at w
theorem Hi.below{T:Nat->Ab}(h:Hi w a n T)(hb:Below w w w'):Hi w' a n T:=fun hn=>by
 obtain⟨b,off,e,hlt,hc⟩:=h hn;exact⟨b,off,e,Nat.lt_of_lt_of_le hlt hb.size,fun i hi=>⟨(hc i hi).1.below hlt hb,(hc i hi).2.below hb⟩⟩
theorem Ag.jE{W:World}{P t:Nat}{x0 x1 x2 x3 x4 x5 x6 x7 x8 x9:Value}(h:Ag W P (.cells #[x0,x1,x2,x3,x4,x5,x6,x7,x8,x9] t)):W.cell? ⟨P,0,none⟩=some x0/\W.cell? ⟨P,1,none⟩=some x1/\W.cell? ⟨P,2,none⟩=some x2/\W.cell? ⟨P,3,none⟩=some x3/\W.cell? ⟨P,4,none⟩=some x4/\W.cell? ⟨P,5,none⟩=some x5/\W.cell? ⟨P,6,none⟩=some x6/\W.cell? ⟨P,7,none⟩=some x7/\W.cell? ⟨P,8,none⟩=some x8/\W.cell? ⟨P,9,none⟩=some x9:=by
 unfold Ag at h;simp[World.cell?,h]
def Ab.cells(t:Ab):Array Value:=#[t.id,t.kind,t.up,t.b1,t.c1.val,.string t.data,t.jA.val,t.own.val,t.b2,t.c2.val]
structure AF where
 ta:Option Addr
 tn:Nat
 tk:Nat
 T:Nat->Ae
 oa:Option Addr
 on:Nat
 ok:Nat
 O:Nat->Ab
def AF.val(k:AF):Value:= .agg #[.slice k.ta k.tn k.tk,.slice k.oa k.on k.ok]
def AF.at(w:World)(k:AF):Prop:=k.tn<=maxLen/\k.on<=maxLen/\Ic w k.ta k.tn k.T/\Hi w k.oa k.on k.O
theorem AF.at.below{k:AF}(h:k.at w)(hb:Below w w w'):k.at w':=⟨h.1,h.2.1,h.2.2.1.below hb,h.2.2.2.below hb⟩
def AF.small(k:AF):Prop:=(k.tn<=1048576/\∀i,i<k.tn->(k.T i).small)/\(k.on<=1048576/\∀i,i<k.on->(k.O i).small)
variable {s:ByteArray}{most:Int}{b:UInt8}
def Fg(b:UInt8):Bool:=decide (32<=b.toNat)&&decide (b.toNat<=126)
def By(s:ByteArray)(most:Int):Bool:=s.data.toList.all Fg&&decide ((s.size:Int)<=most)
theorem JY{k:Nat}(h:k<s.size)(hb:Fg s[k]=false):By s most=false:=by
 have:s.data.toList.all Fg=false:=by
  rw[List.all_eq_false];exact⟨s[k],Array.getElem_mem_toList h,by simp[hb]⟩
 simp[By,this]
theorem Ps(h:∀(k:Nat) (hk:k<s.size),Fg s[k]=true):By s most=decide ((s.size:Int)<=most):=by
 have:s.data.toList.all Fg=true:=by
  rw[List.all_eq_true];intro b hb;obtain⟨k,hk,rfl⟩:=List.getElem_of_mem hb;have hk':k<s.size:=by simpa using hk
  have:=h k hk';have e:s[k]=s.data.toList[k]:=rfl;rw[e]at this;exact this
 simp[By,this]
theorem Jm(h:(b.toNat:Int)<32):Fg b=false:=by
 have:¬32<=b.toNat:=by omega
 simp[Fg,this]
theorem PF(h:126<(b.toNat:Int)):Fg b=false:=by
 have:¬b.toNat<=126:=by omega
 simp[Fg,this]
theorem MZ(h1:32<=(b.toNat:Int))(h2:(b.toNat:Int)<=126):Fg b=true:=by
 have e1:32<=b.toNat:=by omega
 have e2:b.toNat<=126:=by omega
 simp[Fg,e1,e2]
theorem IF(s:ByteArray)(most:Int)(w:World)(hn:s.size<=maxLen):
 Calls prog 108 #[.string s,.int .i64 most] w fun e w'=>e= .returned (.bool (By s most))/\w'=w:=by
 unfold maxLen at hn;go_enter func108,ntmps108
 go_wp2;go_loop [5] (fun i=>∃k:Nat,k<=s.size/\i= .int .i64 k/\(∀(j:Nat) (hj:j<s.size),j<k->Fg s[j]=true)) (fun i=>s.size-(intOf i).toNat)
 case atStart=>exact⟨0,Nat.zero_le _,rfl,fun j _ hj=>by omega⟩
 case round=>
  obtain⟨k,hk,rfl,hall⟩:=hrel;have HA:Hid (∀(j:Nat) (hj:j<s.size),j<k->Fg s[j]=true):=hall;clear hall;by_cases hlt:k<s.size
  ·have hki:(k:Int)<(s.size:Int):=(by omega);go_wp2
   ·go_ret;rename_i h1 h2 _;refine⟨Ah (JY hlt ?_).symm,rfl⟩;rcases h2 with h2|h2
    ·exact Jm h2
    ·exact PF h2
   ·rename_i h1 h2;go_round;case rel=>
     refine⟨k+1,by omega,by go_num,fun j hj hjk=>?_⟩;by_cases e:j=k
     ·subst e;exact MZ h2.1 h2.2
     ·exact HA.out j hj (by omega)
    case measure=>simp[intOf];omega
   ·go_ret;rename_i h1;exact⟨Ah (JY hlt (Jm h1)).symm,rfl⟩
  ·have hki:¬(k:Int)<(s.size:Int):=(by omega);go_wp2;go_ret;exact⟨Ah (Ps (fun j hj=>HA j hj (by omega))).symm,rfl⟩
theorem bytesWorld_below(w:World)(e:TypeId)(s:ByteArray):Below w w (Lib.bytesWorld w e s):=
 ⟨rfl,rfl,rfl,by rw[Lib.bytesWorld_size];omega,fun k hk=>Lib.bytesWorld_at_old w e s k hk⟩
theorem JV(s:ByteArray)(w:World)(hn:s.size<=maxLen):
 Calls prog 43 #[.string s] w fun e w'=>e= .returned (.bool (By s 40))/\Below w w w':=by
 unfold maxLen at hn;by_cases h40:40<s.size
 ·have h40':(40:Int)<(s.size:Int):=by omega
  go_enter func43,ntmps43
  go_wp2;go_ret;have:¬(s.size:Int)<=40:=by omega
  exact⟨Ah (by simp[By,this]),Below.refl _ _⟩
 ·have h40':(s.size:Int)<=40:=by omega
  have kc:=fun(w:World) (s:ByteArray)=>Lib.run_convert_string_bytes (P:=prog) w 9 22 5 s underlying9 underlying22 underlying5;go_enter func43,ntmps43
  go_wp2_with fail
  have hB:=bytesWorld_below w 5 s;have hcell:∀(j:Nat) (hj:j<s.size),(Lib.bytesWorld w 5 s).cell? ⟨w,j,none⟩=some (.int .u8 (s[j].toNat:Int)):=fun j hj=>by
   rw[Lib.bytesWorld_cell w 5 s j hj];have e:s.data.toList.getD j 0=s[j]:=by
    have hj':j<s.data.toList.length:=(by simpa using hj);rw[List.getD_eq_getElem?_getD,List.getElem?_eq_getElem hj'];rfl
   rw[e]
  generalize Lib.bytesWorld w 5 s=W at *;generalize grownCap w s.size 0 5=cp at *;go_loop [11] (fun i=>∃k:Nat,k<=s.size/\i= .int .i64 k/\(∀(j:Nat) (hj:j<s.size),j<k->Fg s[j]=true)) (fun i=>s.size-(intOf i).toNat)
  case atStart=>exact⟨0,Nat.zero_le _,rfl,fun j _ hj=>by omega⟩
  case round=>
   obtain⟨k,hk,rfl,hall⟩:=hrel;have HA:Hid (∀(j:Nat) (hj:j<s.size),j<k->Fg s[j]=true):=hall;clear hall;by_cases hlt:k<s.size
   ·have hki:(k:Int)<(s.size:Int):=(by omega);have hc:=hcell k hlt;clear hcell;go_wp2
    ·go_ret;rename_i h1 h2 _;refine⟨Ah (JY hlt ?_).symm,hB⟩;rcases h2 with h2|h2
     ·exact Jm h2
     ·exact PF h2
    ·rename_i h1 h2;go_round;case rel=>
      refine⟨k+1,by omega,by go_num,fun j hj hjk=>?_⟩;by_cases e:j=k
      ·subst e;exact MZ h2.1 h2.2
      ·exact HA.out j hj (by omega)
     case measure=>simp[intOf];omega
    ·go_ret;rename_i h1;exact⟨Ah (JY hlt (Jm h1)).symm,hB⟩
   ·have hki:¬(k:Int)<(s.size:Int):=(by omega);clear hcell;go_wp2;go_ret;exact⟨Ah (by rw[Ps (fun j hj=>HA.out j hj (by omega))];simpa using h40'),hB⟩
def Dt(base:Int)(n:Nat):Bool:=(base==0)&&(n==0)
def Zw(kind:Int):Bool:=kind==2||kind==3||kind==4||kind==5||kind==6||kind==7||kind==8||kind==9||kind==10||kind==11||kind==13||kind==15
def aE(kind:Int):Bool:=kind==8
def Sz(kind:Int):Bool:=kind==5||kind==14
def Po(kind:Int):Bool:=kind==6||kind==9
def Ln(kind:Int):Bool:=kind==2||kind==3||kind==4||kind==5||kind==12
def Ix(kind:Int):Bool:=kind==5
def ar(kind:Int):Bool:=kind==1||kind==2||kind==3||kind==4||kind==5||kind==6||kind==7||kind==8||kind==9||kind==10||kind==11||kind==12||kind==13||kind==14||kind==15
def Ls(n:Int)(used:Bool):Bool:=if used then DZ n 1 9030 else n==0
def Nb(kind cat:Int)(used:Bool):Bool:=if cat==0 then kind != 14 else used&&DZ cat 1 9999
theorem JK(base:Int)(a:Option Addr)(n cap:Nat)(w:World)(hn:n<=maxLen):
 Calls prog 42 #[.agg #[.int .i64 base,.slice a n cap]] w fun e w'=>e= .returned (.bool (Dt base n))/\Below w w w':=by
 unfold maxLen at hn;have hb0:=Bd w (.cells #[.int .i64 base,.slice a n cap] 30);cases t:(base==0)with
 |true=>
  go_enter func42,ntmps42
  go_wp2;go_ret;refine⟨Ah ?_,hb0⟩;unfold Dt;rw[t,Bool.true_and];by_cases e:n=0
  ·subst e;rfl
  ·have e1:(n==0)=false:=(by simpa using e);rw[e1];simp;omega
 |false=>
  go_enter func42,ntmps42
  go_wp2;go_ret;exact⟨Ah (by simp[Dt,t]),hb0⟩
end Go.Proofs.YtbdagpckhfcneaaGreatDoor
