import Derived.Test.YtdaccbddcjlkpaaGreatDoorZ20p
set_option maxRecDepth 100000
set_option maxHeartbeats 8000000
namespace Go.Proofs.YtdaccbddcjlkpaaGreatDoor
open Go Go.RowKit Go.Deep Go.Maps Go.BigFrame Go.Shelf Go.Proofs.Tryz
open Go.Value renaming slice→qV,int→iT
open Go.IntKind renaming i64→qH
open Go.World renaming ownsRow→qq
open _root_.Nat renaming le_refl→jP,zero_le→qy
open _root_.ByteArray renaming mk→qD
open _root_.List renaming mem_map→jy,mem_singleton→kJ
def Sm(i:Nat):Ae:=⟨i,1,Ao,2,Ao,Fx,0⟩
def Gl(j:Nat):List Ae:=(List.range j).map (fun i=>Sm (i+1))
def Qm:Ab:=⟨1,3,0,1,Ao,⟨#[]⟩,⟨none,0,0,fun _=>⟨#[]⟩⟩,Fx,0,Ao⟩
theorem Gu(j:Nat):(Gl j).length=j:=by simp[Gl]
theorem VI(j:Nat):Gl (j+1)=Gl j++[Sm (j+1)]:=by simp[Gl,List.range_succ]
theorem ag(w:World)(B:Nat)(hb:B<=w.heap.size):AW (w.alloc (.cells #[iT qH 1,iT qH 3,iT qH 0,iT qH 1,qV none 0 0,.string (qD #[]),qV none 0 0,qV none 0 0,iT qH 0,qV none 0 0] 59)) B (qV (w) 1 1) [Qm]:=by
 refine⟨rfl,.inr ⟨w,1,#[iT qH 1,iT qH 3,iT qH 0,iT qH 1,qV none 0 0,.string (qD #[]),qV none 0 0,qV none 0 0,iT qH 0,qV none 0 0],rfl,hb,heap_alloc_new w _,jP _,by unfold maxLen;omega,rfl,?_⟩⟩;rfl
theorem Pv{m i:Nat}(hi:i<m):Be (Gl m) i=Sm (i+1):=by
 rw[Ey (by rw[Gu];exact hi)];simp[Gl]
theorem cK:NY Qm:=⟨rfl,rfl,rfl,Nq,rfl,by simp[Hp,Qm,DV,Ao,Fx]⟩
theorem bi{m:Nat}(h1:1<=m)(h9:m<=9):okL (Gl m) [Qm]=true:=by
 refine BU.2 ⟨?_,jP _,rfl,fun i hi=>?_,fun i j hij hj=>?_,fun i i0 hi=>?_,fun i i0 hi=>?_,fun i hi=>?_⟩
 ·show BH (Gl m).length (Be (Gl m))=true;rw[Gu];refine Q5 h1 h9 (fun i hi=>?_) (fun i j hij hj=>?_)
  ·rw[Pv hi];exact IM.2 ⟨by simp[Sm];omega,rfl,rfl,rfl,by simp[Sm]⟩
  ·show(Be (Gl m) i).id<(Be (Gl m) j).id;rw[Pv qQ,Pv hj];simp[Sm];omega
 ·have hi':i<1:=hi;obtain rfl:i=0:=by omega
  exact JW.2 cK
 ·have hj':j<1:=hj;omega
 ·have hi':i<1:=hi;omega
 ·have hi':i<1:=hi;omega
 ·have hi':i<1:=hi;obtain rfl:i=0:=by omega
  exact Wc.root
theorem UP(tmps:Array Value)(W:World)(P:Nat)(x y:Value)(h:Ag W P (.cells #[x,y] 27))(h2:tmps[2]? =some (.pointer P))(h3:tmps[3]? =some (.bool true)):
 (results Tryz.f51 tmps).run prog W= .ok (.tuple #[.agg #[x,y],.bool true]) W:=by
 obtain⟨z0,z1⟩:=h.two;simp[results,Tryz.results51,go_sem,h2,h3,z0,z1]
theorem Qj(m:Nat)(w:World)(h1:1<=m)(h9:m<=9):
 Calls prog 51 #[iT qH m] w fun e w'=>∃(ta oa:Option Addr) (ca co:Nat),e= .returned (.tuple #[.agg #[qV ta (Gl m).length ca,qV oa 1 co],.bool true])/\Bz w' w (qV ta (Gl m).length ca) (qV oa [Qm].length co) (Gl m) [Qm]/\Below w w w':=by
 have I1:Ev (m:Int) 1 9=true:=by simp[Ev];omega
 have n3:No (.cells #[qV none 0 0,qV none 0 0] 27):=⟨⟩;have C1:=qC (Cm (m:Int) 1 9 (w.alloc n3));rw[I1]at C1;have n4:Nw ((w.alloc n3).alloc (.cells #[iT qH 1,iT qH 3,iT qH 0,iT qH 1,qV none 0 0,.string (qD #[]),qV none 0 0,qV none 0 0,iT qH 0,qV none 0 0] 59)):=⟨⟩;have n5:No (.cells #[qV none 0 0,qV (some ⟨w.heap.size+1,0,none⟩) 1 1] 27):=⟨⟩;have n1:Nw ((n4:World).alloc n5):=⟨⟩;have R0:Hid (Ag n1 w n3):=qC (((Ag.new w _).alloc _).alloc _);have K0:Hid (Ag n1 (w.heap.size+1+1) n5):=qC (by have:=Ag.new n4 n5;simpa using this);have n6:Nv (qV (some ⟨w.heap.size+1,0,none⟩) 1 1):=⟨⟩;have O0:Hid (AW n1 w n6 [Qm]):=qC (by
  have h:=ag (w.alloc n3) w sI;have e:(w.alloc n3).heap.size=w.heap.size+1:=by simp
  rw[e]at h;exact qq.alloc h _)
 have B0:Hid (Below w w n1):=qC (((Bg w _).alloc sI _).alloc sO _);have z0:w.heap.size+3<=(n1:World).heap.size:=by simp
 go_enter func51,ntmps51
 go_wp2_with fail
 refine C1.out.mono ?_;rintro e w1 ⟨rfl,rfl⟩;go_wp2;generalize (n1:World)=V at *;go_loopw [5] (fun i wr=>∃(j:Nat) (ta:Option Addr) (ca:Nat),j<=m/\i= iT qH ((j:Int)+1)/\Ag wr w n3/\Ag wr (w.heap.size+1+1) (.cells #[qV ta j ca,qV (some ⟨w.heap.size+1,0,none⟩) 1 1] 27)/\AW wr w n6 [Qm]/\Du wr (w.heap.size+3) (qV ta j ca) (Gl j)/\Below w w wr/\w.heap.size+3<=wr.heap.size) (fun i _=>m+1-(intOf i).toNat)
 case atStart=>exact⟨0,none,0,qy _,rfl,R0,K0,O0,Du.nil _ _,B0,z0⟩
 case round=>
  obtain⟨j,ta,ca,hj,rfl,r,k,o,ot,be,zz⟩:=hrel;clear R0 K0 O0 B0 z0 C1;have RR:=qC r;have KK:=qC k;have OO:=qC o;have TT:=qC ot;have BB:=qC be;clear r k o ot be;obtain⟨k0,k1⟩:=KK.out.two;have kf:=KK.out.jC;have wj:IntKind.i64.wrap ((j:Int)+1+1)=(j:Int)+1+1:=by rw[IntKind.wrap_i64];omega
  by_cases hlt:j<m
  ·have i1:(j:Int)+1<=(m:Int):=qQ;have HLT:=qC hlt;have n2:No (.cells #[iT qH ((j:Int)+1),iT qH 1,qV none 0 0,iT qH 2,qV none 0 0,qV none 0 0,iT qH 0] 53):=⟨⟩;have QL:Hid (Bl (wr.alloc n2) (some ⟨wr,0,none⟩) 1 (Cn [Sm (j+1)])):=qC (Du.one wr (Sm (j+1)));have QO:=qC (qq.alloc TT n2);have lj:=Gu j;have KA:=qC (KK.out.alloc n2);have RA:=qC (RR.out.alloc n2);have OA:=qC (qq.alloc OO n2);have BA:=qC (BB.out.alloc BB.out.size n2);have za:w.heap.size+3<=(wr.alloc n2).heap.size:=sO;clear lj;go_wp2_with(at_builtin;refine Lw _ rfl _ _ rfl (w.heap.size+3) (qV ta j ca) (Gl j) rfl QO _ _ (Sm (j+1)) rfl QL (by rw[Gu];omega) za ?_;intro a7 c7 w7 o7 g7;rw[Gu]at o7 ⊢;rw[<-VI]at o7;have O7:=qC o7;have G7:=qC g7;clear o7 g7;have nb:∀p,p<w.heap.size+3->some p≠Value.ownBlock (qV ta j ca):=(fun p hp e=>by have:=(qq.lt QO p e.symm).1;omega);have K7:=qC (KA.out.grown G7 (nb _ qQ));have R7:=qC (RA.out.grown G7 (nb _ qQ));have OW7:=qC (qq.kept OA G7 (Or.inr (nb (w.heap.size+1) qQ)));have B7:=qC (BA.out.trans (below_grown G7 (by have:=BB.out.size;omega) (fun p e=>by have:=(qq.lt QO p e).1;omega)));have z7:w.heap.size+3<=w7.heap.size:=Nat.le_trans za G7.out.size;have k7f:=K7.out.jC;obtain⟨k70,k71⟩:=K7.out.two;clear nb)
   go_roundw;case rel=>
    refine⟨j+1,a7,c7,by have:=HLT.out;omega,by go_num,R7.out.other qQ _,K7.out.jB (i:=0) _,AW.set OW7 K7 qX _,Du.set O7 K7 qX _,B7.out.setCell qJ _,by rw[nblk_setCell];exact z7⟩
   case measure=>have:=HLT.out;simp[intOf];omega
  ·obtain rfl:j=m:=by omega
   have i1:¬(j:Int)+1<=(j:Int):=qQ;obtain⟨r0,r1⟩:=RR.out.two;have rf:=RR.out.jC;have lj:=Gu j;have n7:Nv (qV (some ⟨w.heap.size+1,0,none⟩) 1 1):=⟨⟩;have RZ:=qC ((RR.out.jB (i:=0) (qV ta j ca)).jB (i:=1) n7);go_wp2;refine bodyPost_ret (UP _ _ w _ _ RZ rfl rfl) rfl ⟨ta,some ⟨w.heap.size+1,0,none⟩,ca,1,rfl,?_,?_⟩
   ·have k1:Bz wr w (qV ta j ca) n7 (Gl j) [Qm]:=⟨Du.base TT qQ,OO,fun x hx=>by
     obtain⟨i,_,rfl⟩:=jy.1 hx;exact⟨Ak,Ak,Hf⟩,fun x hx=>by
     obtain rfl:=kJ.1 hx;exact⟨Ak,GJ,Hf,Ak⟩,fun x hx=>by
     obtain⟨i,_,rfl⟩:=jy.1 hx;exact⟨jP _,qy _⟩,fun x hx=>by
     obtain rfl:=kJ.1 hx;exact⟨jP _,qy _⟩⟩
    exact(k1.set RR (.inl rfl) _).set (RR.out.jB (i:=0) _) (.inl rfl) _
   ·exact(BB.out.setCell nr _).setCell nr _
open Go.World renaming cell?→xW
def Tb(x:Int):Prop:= -9223372036854775808<=x/\x<9223372036854775808
theorem Tb.w64(x:Int):Tb (wrap64 x):=by unfold wrap64 Tb;omega
theorem Tb.of{x:Int}(h1: -9223372036854775808<=x)(h2:x<9223372036854775808):Tb x:=⟨h1,h2⟩
theorem aV(w0:World)(rb:Nat)(a:Option Addr)(n cap:Nat)(lo hi:Nat)(w:World)(hl:lo<=hi)(hh:hi<=1099511627776)(h:Rd w0 w rb a n cap):
 Calls prog 101 #[.pointer rb,.int .i64 lo,.int .i64 hi] w fun e w'=>∃x:Int,e= .returned (.int .i64 x)/\Tb x/\Rd w0 w' rb a n cap/\w.grownBy w' (some rb):=by
 have HR:Hid (Rd w0 w rb a n cap):=h;clear h;have w1:IntKind.i64.wrap ((hi:Int)-lo)=(hi:Int)-lo:=by rw[IntKind.wrap_i64];omega
 have w2:IntKind.i64.wrap ((hi:Int)-lo+1)=(hi:Int)-lo+1:=by rw[IntKind.wrap_i64];omega
 have nl:¬(hi:Int)<(lo:Int):=by omega
 go_enter func101,ntmps101
 go_wp2_with fail
 refine(AF w0 rb a n cap 8 _ qQ HR).mono ?_;rintro e u1 ⟨x,rfl,_,x8,R1,g1⟩;have HR1:Hid (Rd w0 u1 rb a n cap):=R1;clear R1;by_cases t0:x=0
 ·subst t0;go_wp2;go_ret;exact⟨_,rfl,.of qQ qQ,HR1,g1⟩
 ·by_cases t1:x=1
  ·subst t1;go_wp2;go_ret;exact⟨_,rfl,.of qQ qQ,HR1,g1⟩
  ·have t0':((x:Int)==0)=false:=(by simpa using t0);have t1':((x:Int)==1)=false:=sO;go_wp2_with fail
   refine(Tq w0 rb a n cap _ HR1).mono ?_;rintro e u2 ⟨y,rfl,R2,g2⟩;have HR2:Hid (Rd w0 u2 rb a n cap):=R2;clear R2;have m1:IntKind.u64.wrap ((hi:Int)-lo+1)=(hi:Int)-lo+1:=(by rw[IntKind.wrap_u64];omega);have m0:¬((hi:Int)-lo+1)=0:=qQ;go_wp2;go_ret;exact⟨_,rfl,.w64 _,HR2,Cu g1 g2⟩
theorem RV(w0:World)(rb:Nat)(a:Option Addr)(n cap:Nat)(lo hi:Nat)(w:World)(hl:lo<=hi)(hh:hi<=1099511627776)(h:Rd w0 w rb a n cap):
 Calls prog 52 #[.pointer rb,.int .i64 lo,.int .i64 hi] w fun e w'=>∃x:Int,e= .returned (.int .i64 x)/\Tb x/\Rd w0 w' rb a n cap/\w.grownBy w' (some rb):=by
 have HR:Hid (Rd w0 w rb a n cap):=h;clear h;have w1:IntKind.i64.wrap ((lo:Int)-1)=(lo:Int)-1:=by rw[IntKind.wrap_i64];omega
 have w2:IntKind.i64.wrap ((hi:Int)+1)=(hi:Int)+1:=by rw[IntKind.wrap_i64];omega
 go_enter func52,ntmps52
 go_wp2_with fail
 refine(Eb w0 rb a n cap 24 _ qQ HR).mono ?_;rintro e u1 ⟨t,rfl,R1,g1⟩;have HR1:Hid (Rd w0 u1 rb a n cap):=R1;clear R1;cases t with
 |true=>
  go_wp2_with fail
  have lr:=HR1.out.lt;refine(AF w0 rb a n cap 4 _ qQ (HR1.out.below (Bg _ _))).mono ?_;rintro e u2 ⟨x,rfl,_,x4,R2,g2⟩;have x4':=x4 qQ;have HR2:Hid (Rd w0 u2 rb a n cap):=R2;have gN:w.grownBy u2 (some rb):=Cu (Cw g1 (World.grownBy_alloc u1 _ none) (fun j e=>by cases e)) g2;have Bk:Ag u2 u1 (.cells #[.int .i64 ((lo:Int)-1),.int .i64 ((hi:Int)+1),.int .i64 (-9223372036854775808),.int .i64 9223372036854775807] 2):=(Ag.new u1 _).grown g2 sO;unfold Ag at Bk;have c0:u2.cell? ⟨u1,0,none⟩=some (.int .i64 ((lo:Int)-1)):=by simp[xW,Bk]
  have c1:u2.cell? ⟨u1,1,none⟩=some (.int .i64 ((hi:Int)+1)):=by simp[xW,Bk]
  have c2:u2.cell? ⟨u1,2,none⟩=some (.int .i64 (-9223372036854775808)):=by simp[xW,Bk]
  have c3:u2.cell? ⟨u1,3,none⟩=some (.int .i64 9223372036854775807):=by simp[xW,Bk]
  clear R2 x4 Bk g2;have hx:x=0∨x=1∨x=2∨x=3:=by omega
  rcases hx with rfl|rfl|rfl|rfl;all_goals
   clear x4';go_wp2;go_ret;exact⟨_,rfl,.of qQ qQ,HR2,gN⟩
 |false=>
  go_wp2_with fail
  refine(aV w0 rb a n cap lo hi _ hl hh HR1).mono ?_;rintro e u2 ⟨x,rfl,ix,R2,g2⟩;have HR2:Hid (Rd w0 u2 rb a n cap):=R2;clear R2;go_wp2;go_ret;exact⟨_,rfl,ix,HR2,Cu g1 g2⟩
end Go.Proofs.YtdaccbddcjlkpaaGreatDoor
