import Derived.Test.YteoihknaljgocaaGreatDoorZ29m
set_option maxRecDepth 100000
set_option maxHeartbeats 8000000
namespace Go.Proofs.YteoihknaljgocaaGreatDoor
open Go Go.RowKit Go.Deep Go.Maps Go.BigFrame Go.Shelf Go.Proofs.Tryz
def QT(i:Nat):Ae:=⟨i,1,An,2,An,Fp,0⟩
def FP(j:Nat):List Ae:=(List.range j).map (fun i=>QT (i+1))
def OV:Ab:=⟨1,3,0,1,An,⟨#[]⟩,⟨none,0,0,fun _=>⟨#[]⟩⟩,Fp,0,An⟩
theorem Gb(j:Nat):(FP j).length=j:=by simp[FP]
theorem Uf(j:Nat):FP (j+1)=FP j++[QT (j+1)]:=by simp[FP,List.range_succ]
theorem XJ(w:World)(B:Nat)(hb:B<=w.heap.size):AO (w.alloc (.cells #[.int .i64 1,.int .i64 3,.int .i64 0,.int .i64 1,.slice none 0 0,.string (ByteArray.mk #[]),.slice none 0 0,.slice none 0 0,.int .i64 0,.slice none 0 0] 44)) B (.slice (w) 1 1) [OV]:=by
 refine⟨rfl,.inr ⟨w,1,#[.int .i64 1,.int .i64 3,.int .i64 0,.int .i64 1,.slice none 0 0,.string (ByteArray.mk #[]),.slice none 0 0,.slice none 0 0,.int .i64 0,.slice none 0 0],rfl,hb,heap_alloc_new w _,Nat.le_refl _,by unfold maxLen;omega,rfl,?_⟩⟩;rfl
theorem Oa{m i:Nat}(hi:i<m):Ao (FP m) i=QT (i+1):=by
 rw[Cy (by rw[Gb];exact hi)];simp[FP]
theorem YM:MA OV:=⟨rfl,rfl,rfl,LY,rfl,by simp[Hl,OV,Dz,An,Fp]⟩
theorem YG{m:Nat}(h1:1<=m)(h9:m<=9):okL (FP m) [OV]=true:=by
 refine Bt.2 ⟨?_,Nat.le_refl _,rfl,fun i hi=>?_,fun i j hij hj=>?_,fun i i0 hi=>?_,fun i i0 hi=>?_,fun i hi=>?_⟩
 ·show By (FP m).length (Ao (FP m))=true;rw[Gb];refine Qb h1 h9 (fun i hi=>?_) (fun i j hij hj=>?_)
  ·rw[Oa hi];exact Gw.2 ⟨by simp[QT];omega,rfl,rfl,rfl,by simp[QT]⟩
  ·show(Ao (FP m) i).id<(Ao (FP m) j).id;rw[Oa (by omega),Oa hj];simp[QT];omega
 ·have hi':i<1:=hi;obtain rfl:i=0:=by omega
  exact Jt.2 YM
 ·have hj':j<1:=hj;omega
 ·have hi':i<1:=hi;omega
 ·have hi':i<1:=hi;omega
 ·have hi':i<1:=hi;obtain rfl:i=0:=by omega
  exact UK.root
theorem Rs(tmps:Array Value)(W:World)(P:Nat)(x y:Value)(h:Ag W P (.cells #[x,y] 27))(h2:tmps[2]? =some (.pointer P))(h3:tmps[3]? =some (.bool true)):
 (results Tryz.f35 tmps).run prog W= .ok (.tuple #[.agg #[x,y],.bool true]) W:=by
 obtain⟨z0,z1⟩:=h.two;simp[results,Tryz.results35,go_sem,h2,h3,z0,z1]
theorem Pb(m:Nat)(w:World)(h1:1<=m)(h9:m<=9):
 Calls prog 35 #[.int .i64 m] w fun e w'=>∃(ta oa:Option Addr) (ca co:Nat),e= .returned (.tuple #[.agg #[.slice ta (FP m).length ca,.slice oa 1 co],.bool true])/\BJ w' w (.slice ta (FP m).length ca) (.slice oa [OV].length co) (FP m) [OV]/\Below w w w':=by
 have I1:Ei (m:Int) 1 9=true:=by simp[Ei];omega
 have n3:No (.cells #[.slice none 0 0,.slice none 0 0] 27):=⟨⟩;have C1:=hid (Cg (m:Int) 1 9 (w.alloc n3));rw[I1]at C1;have n4:Nw ((w.alloc n3).alloc (.cells #[.int .i64 1,.int .i64 3,.int .i64 0,.int .i64 1,.slice none 0 0,.string (ByteArray.mk #[]),.slice none 0 0,.slice none 0 0,.int .i64 0,.slice none 0 0] 44)):=⟨⟩;have n5:No (.cells #[.slice none 0 0,.slice (some ⟨w.heap.size+1,0,none⟩) 1 1] 27):=⟨⟩;have n1:Nw ((n4:World).alloc n5):=⟨⟩;have R0:Hid (Ag n1 w n3):=hid (((Ag.new w _).alloc _).alloc _);have K0:Hid (Ag n1 (w.heap.size+1+1) n5):=hid (by have:=Ag.new n4 n5;simpa using this);have n6:Nv (.slice (some ⟨w.heap.size+1,0,none⟩) 1 1):=⟨⟩;have O0:Hid (AO n1 w n6 [OV]):=hid (by
  have h:=XJ (w.alloc n3) w (by simp);have e:(w.alloc n3).heap.size=w.heap.size+1:=by simp
  rw[e]at h;exact World.ownsRow.alloc h _)
 have B0:Hid (Below w w n1):=hid (((Bf w _).alloc (by simp) _).alloc (by simp;omega) _);have z0:w.heap.size+3<=(n1:World).heap.size:=by simp
 go_enter func35,ntmps35
 go_wp2_with fail
 refine C1.out.mono ?_;rintro e w1 ⟨rfl,rfl⟩;go_wp2;generalize (n1:World)=V at *;go_loopw [5] (fun i wr=>∃(j:Nat) (ta:Option Addr) (ca:Nat),j<=m/\i= .int .i64 ((j:Int)+1)/\Ag wr w n3/\Ag wr (w.heap.size+1+1) (.cells #[.slice ta j ca,.slice (some ⟨w.heap.size+1,0,none⟩) 1 1] 27)/\AO wr w n6 [OV]/\Dq wr (w.heap.size+3) (.slice ta j ca) (FP j)/\Below w w wr/\w.heap.size+3<=wr.heap.size) (fun i _=>m+1-(intOf i).toNat)
 case atStart=>exact⟨0,none,0,Nat.zero_le _,rfl,R0,K0,O0,Dq.nil _ _,B0,z0⟩
 case round=>
  obtain⟨j,ta,ca,hj,rfl,r,k,o,ot,be,zz⟩:=hrel;clear R0 K0 O0 B0 z0 C1;have RR:=hid r;have KK:=hid k;have OO:=hid o;have TT:=hid ot;have BB:=hid be;clear r k o ot be;obtain⟨k0,k1⟩:=KK.out.two;have kf:=KK.out.jC;have wj:IntKind.i64.wrap ((j:Int)+1+1)=(j:Int)+1+1:=by rw[IntKind.wrap_i64];omega
  by_cases hlt:j<m
  ·have i1:(j:Int)+1<=(m:Int):=(by omega);have HLT:=hid hlt;have n2:No (.cells #[.int .i64 ((j:Int)+1),.int .i64 1,.slice none 0 0,.int .i64 2,.slice none 0 0,.slice none 0 0,.int .i64 0] 39):=⟨⟩;have QL:Hid (Bp (wr.alloc n2) (some ⟨wr,0,none⟩) 1 (Ce [QT (j+1)])):=hid (Dq.one wr (QT (j+1)));have QO:=hid (World.ownsRow.alloc TT n2);have lj:=Gb j;have KA:=hid (KK.out.alloc n2);have RA:=hid (RR.out.alloc n2);have OA:=hid (World.ownsRow.alloc OO n2);have BA:=hid (BB.out.alloc BB.out.size n2);have za:w.heap.size+3<=(wr.alloc n2).heap.size:=(by simp;omega);clear lj;go_wp2_with(at_builtin;refine Kh _ rfl _ _ rfl (w.heap.size+3) (.slice ta j ca) (FP j) rfl QO _ _ (QT (j+1)) rfl QL (by rw[Gb];omega) za ?_;intro a7 c7 w7 o7 g7;rw[Gb]at o7 ⊢;rw[<-Uf]at o7;have O7:=hid o7;have G7:=hid g7;clear o7 g7;have nb:∀p,p<w.heap.size+3->some p≠Value.ownBlock (.slice ta j ca):=(fun p hp e=>by have:=(World.ownsRow.lt QO p e.symm).1;omega);have K7:=hid (KA.out.grown G7 (nb _ (by omega)));have R7:=hid (RA.out.grown G7 (nb _ (by omega)));have OW7:=hid (World.ownsRow.kept OA G7 (Or.inr (nb (w.heap.size+1) (by omega))));have B7:=hid (BA.out.trans (below_grown G7 (by have:=BB.out.size;omega) (fun p e=>by have:=(World.ownsRow.lt QO p e).1;omega)));have z7:w.heap.size+3<=w7.heap.size:=Nat.le_trans za G7.out.size;have k7f:=K7.out.jC;obtain⟨k70,k71⟩:=K7.out.two;clear nb)
   go_roundw;case rel=>
    refine⟨j+1,a7,c7,by have:=HLT.out;omega,by go_num,R7.out.other (by omega) _,K7.out.jB (i:=0) _,AO.set OW7 K7 (by decide) _,Dq.set O7 K7 (by decide) _,B7.out.setCell (by dsimp only;omega) _,by rw[nblk_setCell];exact z7⟩
   case measure=>have:=HLT.out;simp[intOf];omega
  ·obtain rfl:j=m:=by omega
   have i1:¬(j:Int)+1<=(j:Int):=(by omega);obtain⟨r0,r1⟩:=RR.out.two;have rf:=RR.out.jC;have lj:=Gb j;have n7:Nv (.slice (some ⟨w.heap.size+1,0,none⟩) 1 1):=⟨⟩;have RZ:=hid ((RR.out.jB (i:=0) (.slice ta j ca)).jB (i:=1) n7);go_wp2;refine bodyPost_ret (Rs _ _ w _ _ RZ rfl rfl) rfl ⟨ta,some ⟨w.heap.size+1,0,none⟩,ca,1,rfl,?_,?_⟩
   ·have k1:BJ wr w (.slice ta j ca) n7 (FP j) [OV]:=⟨Dq.base TT (by omega),OO,fun x hx=>by
     obtain⟨i,_,rfl⟩:=List.mem_map.1 hx;exact⟨Ai,Ai,GM⟩,fun x hx=>by
     obtain rfl:=List.mem_singleton.1 hx;exact⟨Ai,Gk,GM,Ai⟩,fun x hx=>by
     obtain⟨i,_,rfl⟩:=List.mem_map.1 hx;exact⟨Nat.le_refl _,Nat.zero_le _⟩,fun x hx=>by
     obtain rfl:=List.mem_singleton.1 hx;exact⟨Nat.le_refl _,Nat.zero_le _⟩⟩
    exact(k1.set RR (.inl rfl) _).set (RR.out.jB (i:=0) _) (.inl rfl) _
   ·exact(BB.out.setCell nr _).setCell nr _
def Q4(x:Int):Prop:= -9223372036854775808<=x/\x<9223372036854775808
theorem Q4.w64(x:Int):Q4 (wrap64 x):=by unfold wrap64 Q4;omega
theorem Q4.of{x:Int}(h1: -9223372036854775808<=x)(h2:x<9223372036854775808):Q4 x:=⟨h1,h2⟩
theorem Yh(w0:World)(rb:Nat)(a:Option Addr)(n cap:Nat)(lo hi:Nat)(w:World)(hl:lo<=hi)(hh:hi<=1099511627776)(h:Rd w0 w rb a n cap):
 Calls prog 81 #[.pointer rb,.int .i64 lo,.int .i64 hi] w fun e w'=>∃x:Int,e= .returned (.int .i64 x)/\Q4 x/\Rd w0 w' rb a n cap/\w.grownBy w' (some rb):=by
 have HR:Hid (Rd w0 w rb a n cap):=h;clear h;have w1:IntKind.i64.wrap ((hi:Int)-lo)=(hi:Int)-lo:=by rw[IntKind.wrap_i64];omega
 have w2:IntKind.i64.wrap ((hi:Int)-lo+1)=(hi:Int)-lo+1:=by rw[IntKind.wrap_i64];omega
 have nl:¬(hi:Int)<(lo:Int):=by omega
 go_enter func81,ntmps81
 go_wp2_with fail
 refine(AI w0 rb a n cap 8 _ (by omega) HR).mono ?_;rintro e u1 ⟨x,rfl,_,x8,R1,g1⟩;have HR1:Hid (Rd w0 u1 rb a n cap):=R1;clear R1;by_cases t0:x=0
 ·subst t0;go_wp2;go_ret;exact⟨_,rfl,.of (by omega) (by omega),HR1,g1⟩
 ·by_cases t1:x=1
  ·subst t1;go_wp2;go_ret;exact⟨_,rfl,.of (by omega) (by omega),HR1,g1⟩
  ·have t0':((x:Int)==0)=false:=(by simpa using t0);have t1':((x:Int)==1)=false:=(by simp;omega);go_wp2_with fail
   refine(Rc w0 rb a n cap _ HR1).mono ?_;rintro e u2 ⟨y,rfl,R2,g2⟩;have HR2:Hid (Rd w0 u2 rb a n cap):=R2;clear R2;have m1:IntKind.u64.wrap ((hi:Int)-lo+1)=(hi:Int)-lo+1:=(by rw[IntKind.wrap_u64];omega);have m0:¬((hi:Int)-lo+1)=0:=(by omega);go_wp2;go_ret;exact⟨_,rfl,.w64 _,HR2,Cz g1 g2⟩
theorem Qp(w0:World)(rb:Nat)(a:Option Addr)(n cap:Nat)(lo hi:Nat)(w:World)(hl:lo<=hi)(hh:hi<=1099511627776)(h:Rd w0 w rb a n cap):
 Calls prog 37 #[.pointer rb,.int .i64 lo,.int .i64 hi] w fun e w'=>∃x:Int,e= .returned (.int .i64 x)/\Q4 x/\Rd w0 w' rb a n cap/\w.grownBy w' (some rb):=by
 have HR:Hid (Rd w0 w rb a n cap):=h;clear h;have w1:IntKind.i64.wrap ((lo:Int)-1)=(lo:Int)-1:=by rw[IntKind.wrap_i64];omega
 have w2:IntKind.i64.wrap ((hi:Int)+1)=(hi:Int)+1:=by rw[IntKind.wrap_i64];omega
 go_enter func37,ntmps37
 go_wp2_with fail
 refine(El w0 rb a n cap 24 _ (by omega) HR).mono ?_;rintro e u1 ⟨t,rfl,R1,g1⟩;have HR1:Hid (Rd w0 u1 rb a n cap):=R1;clear R1;cases t with
 |true=>
  go_wp2_with fail
  have lr:=HR1.out.lt;refine(AI w0 rb a n cap 4 _ (by omega) (HR1.out.below (Bf _ _))).mono ?_;rintro e u2 ⟨x,rfl,_,x4,R2,g2⟩;have x4':=x4 (by omega);have HR2:Hid (Rd w0 u2 rb a n cap):=R2;have gN:w.grownBy u2 (some rb):=Cz (Ea g1 (World.grownBy_alloc u1 _ none) (fun j e=>by cases e)) g2;have Bk:Ag u2 u1 (.cells #[.int .i64 ((lo:Int)-1),.int .i64 ((hi:Int)+1),.int .i64 (-9223372036854775808),.int .i64 9223372036854775807] 2):=(Ag.new u1 _).grown g2 (by simp;omega);unfold Ag at Bk;have c0:u2.cell? ⟨u1,0,none⟩=some (.int .i64 ((lo:Int)-1)):=by simp[World.cell?,Bk]
  have c1:u2.cell? ⟨u1,1,none⟩=some (.int .i64 ((hi:Int)+1)):=by simp[World.cell?,Bk]
  have c2:u2.cell? ⟨u1,2,none⟩=some (.int .i64 (-9223372036854775808)):=by simp[World.cell?,Bk]
  have c3:u2.cell? ⟨u1,3,none⟩=some (.int .i64 9223372036854775807):=by simp[World.cell?,Bk]
  clear R2 x4 Bk g2;have hx:x=0∨x=1∨x=2∨x=3:=by omega
  rcases hx with rfl|rfl|rfl|rfl;all_goals
   clear x4';go_wp2;go_ret;exact⟨_,rfl,.of (by omega) (by omega),HR2,gN⟩
 |false=>
  go_wp2_with fail
  refine(Yh w0 rb a n cap lo hi _ hl hh HR1).mono ?_;rintro e u2 ⟨x,rfl,ix,R2,g2⟩;have HR2:Hid (Rd w0 u2 rb a n cap):=R2;clear R2;go_wp2;go_ret;exact⟨_,rfl,ix,HR2,Cz g1 g2⟩
end Go.Proofs.YteoihknaljgocaaGreatDoor
