import Derived.Test.YtallmkehpfaaeaaGreatDoorZ23
set_option maxRecDepth 100000
set_option maxHeartbeats 2000000
namespace Go.Proofs.YtallmkehpfaaeaaGreatDoor
open Go.RowKit Go.Deep Go.Maps
def InI(x:Int):Prop:= -9223372036854775808≤x∧x<9223372036854775808
theorem InI.w64(x:Int):InI (wrap64 x):=by unfold wrap64 InI;omega
theorem InI.of{x:Int}(h1: -9223372036854775808≤x)(h2:x<9223372036854775808):InI x:=⟨h1,h2⟩
theorem near_big(w0:World)(rb:Nat)(a:Option Addr)(n cap:Nat)(lo hi:Nat)(w:World)(hl:lo≤hi)(hh:hi≤1099511627776)(h:Rd w0 w rb a n cap):
 Calls Tryz.prog 103 #[.pointer (some ⟨rb,0,none⟩),.int .i64 lo,.int .i64 hi] w fun e w'=>∃x:Int,e= .returned (.int .i64 x)∧InI x∧Rd w0 w' rb a n cap∧w.grownBy w' (some rb):=by
 have HR:Hid (Rd w0 w rb a n cap):=h;clear h;have w1:IntKind.i64.wrap ((hi:Int)-lo)=(hi:Int)-lo:=by rw[IntKind.wrap_i64];omega
 have w2:IntKind.i64.wrap ((hi:Int)-lo+1)=(hi:Int)-lo+1:=by rw[IntKind.wrap_i64];omega
 have nl:¬(hi:Int)<(lo:Int):=by omega
 go_enter Tryz.func103,Tryz.ntmps103
 go_wp2_with fail
 refine(rdBelow_any w0 rb a n cap 8 _ (by omega) HR.out).mono ?_;rintro e u1 ⟨x,rfl,_,x8,R1,g1⟩;have HR1:Hid (Rd w0 u1 rb a n cap):=R1;clear R1;by_cases t0:x=0
 ·subst t0;go_wp2;go_ret;exact⟨_,rfl,.of (by omega) (by omega),HR1.out,g1⟩
 ·by_cases t1:x=1
  ·subst t1;go_wp2;go_ret;exact⟨_,rfl,.of (by omega) (by omega),HR1.out,g1⟩
  ·have t0':((x:Int)==0)=false:=(by simpa using t0);have t1':((x:Int)==1)=false:=(by simp;omega);go_wp2_with fail
   refine(word_any w0 rb a n cap _ HR1.out).mono ?_;rintro e u2 ⟨y,rfl,R2,g2⟩;have HR2:Hid (Rd w0 u2 rb a n cap):=R2;clear R2;have m1:IntKind.u64.wrap ((hi:Int)-lo+1)=(hi:Int)-lo+1:=(by rw[IntKind.wrap_u64];omega);have m0:¬((hi:Int)-lo+1)=0:=(by omega);go_wp2;go_ret;exact⟨_,rfl,.w64 _,HR2.out,grown_pair g1 g2⟩
theorem off_big(w0:World)(rb:Nat)(a:Option Addr)(n cap:Nat)(lo hi:Nat)(w:World)(hl:lo≤hi)(hh:hi≤1099511627776)(h:Rd w0 w rb a n cap):
 Calls Tryz.prog 62 #[.pointer (some ⟨rb,0,none⟩),.int .i64 lo,.int .i64 hi] w fun e w'=>∃x:Int,e= .returned (.int .i64 x)∧InI x∧Rd w0 w' rb a n cap∧w.grownBy w' (some rb):=by
 have HR:Hid (Rd w0 w rb a n cap):=h;clear h;have w1:IntKind.i64.wrap ((lo:Int)-1)=(lo:Int)-1:=by rw[IntKind.wrap_i64];omega
 have w2:IntKind.i64.wrap ((hi:Int)+1)=(hi:Int)+1:=by rw[IntKind.wrap_i64];omega
 go_enter Tryz.func62,Tryz.ntmps62
 go_wp2_with fail
 refine(once_any w0 rb a n cap 24 _ (by omega) HR.out).mono ?_;rintro e u1 ⟨t,rfl,R1,g1⟩;have HR1:Hid (Rd w0 u1 rb a n cap):=R1;clear R1;cases t with
 |true=>
  go_wp2_with fail
  have lr:=HR1.out.lt;refine(rdBelow_any w0 rb a n cap 4 _ (by omega) (HR1.out.below ((Below.refl _ _).alloc (Nat.le_refl _) _))).mono ?_;rintro e u2 ⟨x,rfl,_,x4,R2,g2⟩;have x4':=x4 (by omega);have HR2:Hid (Rd w0 u2 rb a n cap):=R2;have gN:w.grownBy u2 (some rb):=grown_pair (grown_trans g1 (World.grownBy_alloc u1 _ none) (fun j e=>by cases e)) g2;have Bk:Blk u2 u1.heap.size (.cells #[.int .i64 ((lo:Int)-1),.int .i64 ((hi:Int)+1),.int .i64 (-9223372036854775808),.int .i64 9223372036854775807] 2):=(Blk.new u1 _).grown g2 (by simp;omega);unfold Blk at Bk;have c0:u2.cell? ⟨u1.heap.size,0,none⟩=some (.int .i64 ((lo:Int)-1)):=by simp[World.cell?,Bk]
  have c1:u2.cell? ⟨u1.heap.size,1,none⟩=some (.int .i64 ((hi:Int)+1)):=by simp[World.cell?,Bk]
  have c2:u2.cell? ⟨u1.heap.size,2,none⟩=some (.int .i64 (-9223372036854775808)):=by simp[World.cell?,Bk]
  have c3:u2.cell? ⟨u1.heap.size,3,none⟩=some (.int .i64 9223372036854775807):=by simp[World.cell?,Bk]
  clear R2 x4 Bk g2;have hx:x=0∨x=1∨x=2∨x=3:=by omega
  rcases hx with rfl|rfl|rfl|rfl;all_goals
   clear x4';go_wp2;go_ret;exact⟨_,rfl,.of (by omega) (by omega),HR2.out,gN⟩
 |false=>
  go_wp2_with fail
  refine(near_big w0 rb a n cap lo hi _ hl hh HR1.out).mono ?_;rintro e u2 ⟨x,rfl,ix,R2,g2⟩;have HR2:Hid (Rd w0 u2 rb a n cap):=R2;clear R2;go_wp2;go_ret;exact⟨_,rfl,ix,HR2.out,grown_pair g1 g2⟩
end Go.Proofs.YtallmkehpfaaeaaGreatDoor
