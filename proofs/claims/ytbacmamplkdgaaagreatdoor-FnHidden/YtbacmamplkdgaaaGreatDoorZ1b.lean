import Derived.Test.YtbacmamplkdgaaaGreatDoorZ0b
import Derived.Lib.ConvBytes
set_option maxRecDepth 100000
set_option maxHeartbeats 4000000
namespace Go.Proofs.YtbacmamplkdgaaaGreatDoor
open Go.RowKit Go.Deep
def thrOk(id made b1:Int)(n1:Nat)(f1 g1:Nat→Int)(b2:Int)(n2:Nat)(f2 g2:Nat→Int)(n3:Nat)(h:Nat→Int):Bool:=
 inB id 1 9&&labOk b1 n1 f1 g1&&labOk b2 n2 f2 g2&&ownOk n3 h&&inB made 0 30
theorem thrOk_all{id made b1:Int}{n1:Nat}{f1 g1:Nat→Int}{b2:Int}{n2:Nat}{f2 g2:Nat→Int}{n3:Nat}{h:Nat→Int}(t0:inB id 1 9=true)(t1:labOk b1 n1 f1 g1=true)(t2:labOk b2 n2 f2 g2=true)(t3:ownOk n3 h=true):
 thrOk id made b1 n1 f1 g1 b2 n2 f2 g2 n3 h=inB made 0 30:=by simp[thrOk,t0,t1,t2,t3]
theorem specThr_any(id made b1:Int)(a1:Option Addr)(n1 k1:Nat)(f1 g1:Nat→Int)(b2:Int)(a2:Option Addr)(n2 k2:Nat)(f2 g2:Nat→Int)(a3:Option Addr)(n3 k3:Nat)(h:Nat→Int)(w:World)
 (hn1:n1≤maxLen)(hn2:n2≤maxLen)(hn3:n3≤maxLen)(hc1:CatsAt w a1 n1 f1 g1)(hc2:CatsAt w a2 n2 f2 g2)(hc3:IntsAt w a3 n3 h):
 Calls Tryz.prog 45 #[.agg #[.int .i64 id,.int .i64 b1,.slice a1 n1 k1,.int .i64 b2,.slice a2 n2 k2,.slice a3 n3 k3,.int .i64 made]] w fun e w'=>e= .returned (.bool (thrOk id made b1 n1 f1 g1 b2 n2 f2 g2 n3 h))∧Below w.heap.size w w':=by
 have hb0:=(Below.refl _ w).alloc (Nat.le_refl _) (.cells #[.int .i64 id,.int .i64 b1,.slice a1 n1 k1,.int .i64 b2,.slice a2 n2 k2,.slice a3 n3 k3,.int .i64 made] 75);have C1:=hc1.below hb0;have C2:=hc2.below hb0;have C3:=hc3.below hb0;clear hc1 hc2 hc3;by_cases t0:inB id 1 9=true
 ·skip;go_enter Tryz.func45,Tryz.ntmps45
  go_wp2_with(go_at_call 49;refine(l1In_any _ _ _ _).mono ?_;rintro e w' ⟨rfl,rfl⟩)
  refine(specOk_any _ _ _ _ f1 g1 _ hn1 C1).mono ?_;rintro e w1 ⟨rfl,hb1⟩;obtain⟨q1,_⟩:=bcell hb1;have z1:w.heap.size<w1.heap.size:=by have:=hb1.size;simp at this;omega
  have B1:Below w.heap.size w w1:=hb0.trans (hb1.mono (by simp));by_cases t1:labOk b1 n1 f1 g1=true
  ·go_wp2_with fail
   refine(specOk_any _ _ _ _ f2 g2 _ hn2 (C2.below hb1)).mono ?_;rintro e w2 ⟨rfl,hb2⟩;obtain⟨q2,_⟩:=bcell hb2;have z2:w.heap.size<w2.heap.size:=(by have:=hb2.size;omega);have B2:Below w.heap.size w w2:=B1.trans (hb2.mono (by omega));by_cases t2:labOk b2 n2 f2 g2=true
   ·go_wp2_with fail
    refine(l2Owns_any _ _ _ h _ hn3 ((C3.below hb1).below hb2)).mono ?_;rintro e w3 ⟨rfl,hb3⟩;obtain⟨q3,_⟩:=bcell hb3;have z3:w.heap.size<w3.heap.size:=(by have:=hb3.size;omega);have B3:Below w.heap.size w w3:=B2.trans (hb3.mono (by omega));by_cases t3:ownOk n3 h=true
    ·go_wp2_with(go_at_call 49;refine(l1In_any _ _ _ _).mono ?_;rintro e w' ⟨rfl,rfl⟩)
     go_ret;exact⟨ret_bool (by simp[thrOk,t0,t1,t2,t3]),B3⟩
    ·have t3':ownOk n3 h=false:=(by simpa using t3);clear t3;go_wp2;go_ret;exact⟨ret_bool (by simp[thrOk,t3']),B3⟩
   ·have t2':labOk b2 n2 f2 g2=false:=(by simpa using t2);clear t2;go_wp2;go_ret;exact⟨ret_bool (by simp[thrOk,t2']),B2⟩
  ·have t1':labOk b1 n1 f1 g1=false:=(by simpa using t1);clear t1;go_wp2;go_ret;exact⟨ret_bool (by simp[thrOk,t1']),B1⟩
 ·have t0':inB id 1 9=false:=by simpa using t0
  clear t0;go_enter Tryz.func45,Tryz.ntmps45
  go_wp2_with(go_at_call 49;refine(l1In_any _ _ _ _).mono ?_;rintro e w' ⟨rfl,rfl⟩)
  go_ret;exact⟨ret_bool (by simp[thrOk,t0']),hb0⟩
theorem implThr_any(id made b1:Int)(a1:Option Addr)(n1 k1:Nat)(f1 g1:Nat→Int)(b2:Int)(a2:Option Addr)(n2 k2:Nat)(f2 g2:Nat→Int)(a3:Option Addr)(n3 k3:Nat)(h:Nat→Int)(w:World)
 (hn1:n1≤maxLen)(hn2:n2≤maxLen)(hn3:n3≤maxLen)(hc1:CatsAt w a1 n1 f1 g1)(hc2:CatsAt w a2 n2 f2 g2)(hc3:IntsAt w a3 n3 h):
 Calls Tryz.prog 98 #[.agg #[.int .i64 id,.int .i64 b1,.slice a1 n1 k1,.int .i64 b2,.slice a2 n2 k2,.slice a3 n3 k3,.int .i64 made]] w fun e w'=>e= .returned (.bool (thrOk id made b1 n1 f1 g1 b2 n2 f2 g2 n3 h))∧Below w.heap.size w w':=by
 have hb0:=(Below.refl _ w).alloc (Nat.le_refl _) (.cells #[.int .i64 id,.int .i64 b1,.slice a1 n1 k1,.int .i64 b2,.slice a2 n2 k2,.slice a3 n3 k3,.int .i64 made] 75);have C1:=hc1.below hb0;have C2:=hc2.below hb0;have C3:=hc3.below hb0;clear hc1 hc2 hc3;by_cases t0:inB id 1 9=true
 ·obtain⟨s1,s2⟩:=inB_iff.1 t0;go_enter Tryz.func98,Tryz.ntmps98
  go_wp2_with fail
  refine(implOk_any _ _ _ _ f1 g1 _ hn1 C1).mono ?_;rintro e w1 ⟨rfl,hb1⟩;obtain⟨q1,_⟩:=bcell hb1;have z1:w.heap.size<w1.heap.size:=by have:=hb1.size;simp at this;omega
  have B1:Below w.heap.size w w1:=hb0.trans (hb1.mono (by simp));by_cases t1:labOk b1 n1 f1 g1=true
  ·go_wp2_with fail
   refine(implOk_any _ _ _ _ f2 g2 _ hn2 (C2.below hb1)).mono ?_;rintro e w2 ⟨rfl,hb2⟩;obtain⟨q2,_⟩:=bcell hb2;have z2:w.heap.size<w2.heap.size:=(by have:=hb2.size;omega);have B2:Below w.heap.size w w2:=B1.trans (hb2.mono (by omega));by_cases t2:labOk b2 n2 f2 g2=true
   ·go_wp2_with fail
    refine(ownsOk_any _ _ _ h _ hn3 ((C3.below hb1).below hb2)).mono ?_;rintro e w3 ⟨rfl,rfl⟩;have B3:=B2;by_cases t3:ownOk n3 h=true
    ·go_wp2;all_goals
      go_ret;refine⟨ret_bool ?_,B3⟩;rw[thrOk_all t0 t1 t2 t3];first|exact(inB_yes (by assumption)).symm|exact(inB_no (by assumption)).symm
    ·have t3':ownOk n3 h=false:=(by simpa using t3);clear t3;go_wp2;go_ret;exact⟨ret_bool (by simp[thrOk,t3']),B3⟩
   ·have t2':labOk b2 n2 f2 g2=false:=(by simpa using t2);clear t2;go_wp2;go_ret;exact⟨ret_bool (by simp[thrOk,t2']),B2⟩
  ·have t1':labOk b1 n1 f1 g1=false:=(by simpa using t1);clear t1;go_wp2;go_ret;exact⟨ret_bool (by simp[thrOk,t1']),B1⟩
 ·have t0':inB id 1 9=false:=by simpa using t0
  clear t0;go_enter Tryz.func98,Tryz.ntmps98
  by_cases s1:1≤id
  ·have s2:¬id≤9:=fun s2=>by simp[inB,s1,s2]at t0'
   go_wp2;go_ret;exact⟨ret_bool (by simp[thrOk,t0']),hb0⟩
  ·go_wp2;go_ret;exact⟨ret_bool (by simp[thrOk,t0']),hb0⟩

def Blk(W:World)(P:Nat)(o:Obj):Prop:=W.heap[P]? =some o
theorem Blk.new(W:World)(o:Obj):Blk (W.alloc o) W.heap.size o:=blk_alloc_new _ _
theorem Blk.lt{W:World}{P:Nat}{o:Obj}(h:Blk W P o):P<W.heap.size:=(Array.getElem?_eq_some_iff.1 h).1
theorem Blk.alloc{W:World}{P:Nat}{o:Obj}(h:Blk W P o)(o':Obj):Blk (W.alloc o') P o:=(blk_alloc_lt _ _ _ h.lt).trans h
theorem Blk.below{W W':World}{P:Nat}{o:Obj}(h:Blk W P o)(hb:Below W.heap.size W W'):Blk W' P o:=(hb.block P h.lt).trans h
theorem Blk.two{W:World}{P t:Nat}{x y:Value}(h:Blk W P (.cells #[x,y] t)):W.cell? ⟨P,0,none⟩=some x∧W.cell? ⟨P,1,none⟩=some y:=by
 unfold Blk at h;simp[World.cell?,h]
theorem hid{p:Prop}(h:p):Hid p:=h
theorem then_{w a b:World}(h:Below w.heap.size w a)(k:Below a.heap.size a b):Below w.heap.size w b:=h.trans (k.mono h.size)
structure CatL where
 a:Option Addr
 n:Nat
 k:Nat
 f:Nat→Int
 g:Nat→Int
structure IntL where
 a:Option Addr
 n:Nat
 k:Nat
 h:Nat→Int
def CatL.at(w:World)(c:CatL):Prop:=c.n≤maxLen∧CatsAt w c.a c.n c.f c.g
def IntL.at(w:World)(c:IntL):Prop:=c.n≤maxLen∧IntsAt w c.a c.n c.h
def CatL.val(c:CatL):Value:= .slice c.a c.n c.k
def IntL.val(c:IntL):Value:= .slice c.a c.n c.k
structure ThrV where
 id:Int
 b1:Int
 c1:CatL
 b2:Int
 c2:CatL
 own:IntL
 made:Int
def ThrV.val(t:ThrV):Value:= .agg #[.int .i64 t.id,.int .i64 t.b1,t.c1.val,.int .i64 t.b2,t.c2.val,t.own.val,.int .i64 t.made]
def ThrV.at(w:World)(t:ThrV):Prop:=t.c1.at w∧t.c2.at w∧t.own.at w
theorem CatL.at.below{w w':World}{c:CatL}(h:c.at w)(hb:Below w.heap.size w w'):c.at w':=⟨h.1,h.2.below hb⟩
theorem IntL.at.below{w w':World}{c:IntL}(h:c.at w)(hb:Below w.heap.size w w'):c.at w':=⟨h.1,h.2.below hb⟩
theorem ThrV.at.below{w w':World}{t:ThrV}(h:t.at w)(hb:Below w.heap.size w w'):t.at w':=⟨h.1.below hb,h.2.1.below hb,h.2.2.below hb⟩
structure Cells7(w:World)(b o:Nat)(t:ThrV):Prop where
 c0:w.cell? ⟨b,o,none⟩=some (.int .i64 t.id)
 c1:w.cell? ⟨b,o+1,none⟩=some (.int .i64 t.b1)
 c2:w.cell? ⟨b,o+2,none⟩=some t.c1.val
 c3:w.cell? ⟨b,o+3,none⟩=some (.int .i64 t.b2)
 c4:w.cell? ⟨b,o+4,none⟩=some t.c2.val
 c5:w.cell? ⟨b,o+5,none⟩=some t.own.val
 c6:w.cell? ⟨b,o+6,none⟩=some (.int .i64 t.made)
theorem Cells7.below{w w':World}{b o:Nat}{t:ThrV}(h:Cells7 w b o t)(hl:b<w.heap.size)(hb:Below w.heap.size w w'):Cells7 w' b o t:=
 ⟨(hb.cell (p:=⟨b,o,none⟩) hl).trans h.c0,(hb.cell (p:=⟨b,o+1,none⟩) hl).trans h.c1,(hb.cell (p:=⟨b,o+2,none⟩) hl).trans h.c2,(hb.cell (p:=⟨b,o+3,none⟩) hl).trans h.c3,(hb.cell (p:=⟨b,o+4,none⟩) hl).trans h.c4,(hb.cell (p:=⟨b,o+5,none⟩) hl).trans h.c5,(hb.cell (p:=⟨b,o+6,none⟩) hl).trans h.c6⟩
def ThrsAt(w:World)(a:Option Addr)(n:Nat)(T:Nat→ThrV):Prop:=
 0<n→∃b off,a=some ⟨b,off,none⟩∧b<w.heap.size∧∀i,i<n→Cells7 w b (off+i*7) (T i)∧(T i).at w
theorem ThrsAt.below{w w':World}{a:Option Addr}{n:Nat}{T:Nat→ThrV}(h:ThrsAt w a n T)(hb:Below w.heap.size w w'):ThrsAt w' a n T:=fun hn=>by
 obtain⟨b,off,e,hlt,hc⟩:=h hn;exact⟨b,off,e,Nat.lt_of_lt_of_le hlt hb.size,fun i hi=>⟨(hc i hi).1.below hlt hb,(hc i hi).2.below hb⟩⟩
def ThrV.small(t:ThrV):Prop:=t.c1.n≤1048576∧t.c2.n≤1048576∧t.own.n≤1048576
def StrAt(w:World)(a:Option Addr)(n:Nat)(f:Nat→ByteArray):Prop:=0<n→∃b off,a=some ⟨b,off,none⟩∧b<w.heap.size∧∀i,i<n→w.cell? ⟨b,off+i,none⟩=some (.string (f i))
theorem StrAt.below{w w':World}{a:Option Addr}{n:Nat}{f:Nat→ByteArray}(h:StrAt w a n f)(hb:Below w.heap.size w w'):StrAt w' a n f:=fun hn=>by
 obtain⟨b,off,e,hlt,hc⟩:=h hn;exact⟨b,off,e,Nat.lt_of_lt_of_le hlt hb.size,fun i hi=>(hb.cell (p:=⟨b,off+i,none⟩) hlt).trans (hc i hi)⟩
structure StrL where
 a:Option Addr
 n:Nat
 k:Nat
 f:Nat→ByteArray
def StrL.at(w:World)(c:StrL):Prop:=c.n≤maxLen∧StrAt w c.a c.n c.f∧∀i,i<c.n→(c.f i).size≤maxLen
def StrL.val(c:StrL):Value:= .slice c.a c.n c.k
theorem StrL.at.below{w w':World}{c:StrL}(h:c.at w)(hb:Below w.heap.size w w'):c.at w':=⟨h.1,h.2.1.below hb,h.2.2⟩
def StrL.small(c:StrL):Prop:=c.n≤1048576∧∀i,i<c.n→(c.f i).size≤1048576
structure ObjV where
 id:Int
 kind:Int
 up:Int
 b1:Int
 c1:CatL
 data:ByteArray
 items:StrL
 own:IntL
 b2:Int
 c2:CatL
def ObjV.val(t:ObjV):Value:= .agg #[.int .i64 t.id,.int .i64 t.kind,.int .i64 t.up,.int .i64 t.b1,t.c1.val,.string t.data,t.items.val,t.own.val,.int .i64 t.b2,t.c2.val]
def ObjV.at(w:World)(t:ObjV):Prop:=t.c1.at w∧t.items.at w∧t.own.at w∧t.c2.at w∧t.data.size≤maxLen
theorem ObjV.at.below{w w':World}{t:ObjV}(h:t.at w)(hb:Below w.heap.size w w'):t.at w':=⟨h.1.below hb,h.2.1.below hb,h.2.2.1.below hb,h.2.2.2.1.below hb,h.2.2.2.2⟩
def ObjV.small(t:ObjV):Prop:=t.c1.n≤1048576∧t.data.size≤1048576∧t.items.small∧t.own.n≤1048576∧t.c2.n≤1048576
structure Cells10(w:World)(b o:Nat)(t:ObjV):Prop where
 c0:w.cell? ⟨b,o,none⟩=some (.int .i64 t.id)
 c1:w.cell? ⟨b,o+1,none⟩=some (.int .i64 t.kind)
 c2:w.cell? ⟨b,o+2,none⟩=some (.int .i64 t.up)
 c3:w.cell? ⟨b,o+3,none⟩=some (.int .i64 t.b1)
 c4:w.cell? ⟨b,o+4,none⟩=some t.c1.val
 c5:w.cell? ⟨b,o+5,none⟩=some (.string t.data)
 c6:w.cell? ⟨b,o+6,none⟩=some t.items.val
 c7:w.cell? ⟨b,o+7,none⟩=some t.own.val
 c8:w.cell? ⟨b,o+8,none⟩=some (.int .i64 t.b2)
 c9:w.cell? ⟨b,o+9,none⟩=some t.c2.val
theorem Cells10.below{w w':World}{b o:Nat}{t:ObjV}(h:Cells10 w b o t)(hl:b<w.heap.size)(hb:Below w.heap.size w w'):Cells10 w' b o t:=
 ⟨(hb.cell (p:=⟨b,o,none⟩) hl).trans h.c0,(hb.cell (p:=⟨b,o+1,none⟩) hl).trans h.c1,(hb.cell (p:=⟨b,o+2,none⟩) hl).trans h.c2,(hb.cell (p:=⟨b,o+3,none⟩) hl).trans h.c3,(hb.cell (p:=⟨b,o+4,none⟩) hl).trans h.c4,(hb.cell (p:=⟨b,o+5,none⟩) hl).trans h.c5,(hb.cell (p:=⟨b,o+6,none⟩) hl).trans h.c6,(hb.cell (p:=⟨b,o+7,none⟩) hl).trans h.c7,(hb.cell (p:=⟨b,o+8,none⟩) hl).trans h.c8,(hb.cell (p:=⟨b,o+9,none⟩) hl).trans h.c9⟩
def ObjsAt(w:World)(a:Option Addr)(n:Nat)(T:Nat→ObjV):Prop:=
 0<n→∃b off,a=some ⟨b,off,none⟩∧b<w.heap.size∧∀i,i<n→Cells10 w b (off+i*10) (T i)∧(T i).at w
theorem ObjsAt.below{w w':World}{a:Option Addr}{n:Nat}{T:Nat→ObjV}(h:ObjsAt w a n T)(hb:Below w.heap.size w w'):ObjsAt w' a n T:=fun hn=>by
 obtain⟨b,off,e,hlt,hc⟩:=h hn;exact⟨b,off,e,Nat.lt_of_lt_of_le hlt hb.size,fun i hi=>⟨(hc i hi).1.below hlt hb,(hc i hi).2.below hb⟩⟩
theorem Blk.ten{W:World}{P t:Nat}{x0 x1 x2 x3 x4 x5 x6 x7 x8 x9:Value}(h:Blk W P (.cells #[x0,x1,x2,x3,x4,x5,x6,x7,x8,x9] t)):W.cell? ⟨P,0,none⟩=some x0∧W.cell? ⟨P,1,none⟩=some x1∧W.cell? ⟨P,2,none⟩=some x2∧W.cell? ⟨P,3,none⟩=some x3∧W.cell? ⟨P,4,none⟩=some x4∧W.cell? ⟨P,5,none⟩=some x5∧W.cell? ⟨P,6,none⟩=some x6∧W.cell? ⟨P,7,none⟩=some x7∧W.cell? ⟨P,8,none⟩=some x8∧W.cell? ⟨P,9,none⟩=some x9:=by
 unfold Blk at h;simp[World.cell?,h]
def ObjV.cells(t:ObjV):Array Value:=#[.int .i64 t.id,.int .i64 t.kind,.int .i64 t.up,.int .i64 t.b1,t.c1.val,.string t.data,t.items.val,t.own.val,.int .i64 t.b2,t.c2.val]
structure KerV where
 ta:Option Addr
 tn:Nat
 tk:Nat
 T:Nat→ThrV
 oa:Option Addr
 on:Nat
 ok:Nat
 O:Nat→ObjV
def KerV.val(k:KerV):Value:= .agg #[.slice k.ta k.tn k.tk,.slice k.oa k.on k.ok]
def KerV.at(w:World)(k:KerV):Prop:=k.tn≤maxLen∧k.on≤maxLen∧ThrsAt w k.ta k.tn k.T∧ObjsAt w k.oa k.on k.O
theorem KerV.at.below{w w':World}{k:KerV}(h:k.at w)(hb:Below w.heap.size w w'):k.at w':=⟨h.1,h.2.1,h.2.2.1.below hb,h.2.2.2.below hb⟩
def KerV.small(k:KerV):Prop:=(k.tn≤1048576∧∀i,i<k.tn→(k.T i).small)∧(k.on≤1048576∧∀i,i<k.on→(k.O i).small)
def byteOk(b:UInt8):Bool:=decide (32≤b.toNat)&&decide (b.toNat≤126)
def plainB(s:ByteArray)(most:Int):Bool:=s.data.toList.all byteOk&&decide ((s.size:Int)≤most)
theorem plain_at{s:ByteArray}{most:Int}{k:Nat}(h:k<s.size)(hb:byteOk s[k]=false):plainB s most=false:=by
 have:s.data.toList.all byteOk=false:=by
  rw[List.all_eq_false];exact⟨s[k],Array.getElem_mem_toList h,by simp[hb]⟩
 simp[plainB,this]
theorem plain_all{s:ByteArray}{most:Int}(h:∀(k:Nat) (hk:k<s.size),byteOk s[k]=true):plainB s most=decide ((s.size:Int)≤most):=by
 have:s.data.toList.all byteOk=true:=by
  rw[List.all_eq_true];intro b hb;obtain⟨k,hk,rfl⟩:=List.getElem_of_mem hb;have hk':k<s.size:=by simpa using hk
  have:=h k hk';have e:s[k]=s.data.toList[k]:=rfl;rw[e]at this;exact this
 simp[plainB,this]
theorem byteOk_lo{b:UInt8}(h:(b.toNat:Int)<32):byteOk b=false:=by
 have:¬32≤b.toNat:=by omega
 simp[byteOk,this]
theorem byteOk_hi{b:UInt8}(h:126<(b.toNat:Int)):byteOk b=false:=by
 have:¬b.toNat≤126:=by omega
 simp[byteOk,this]
theorem byteOk_yes{b:UInt8}(h1:32≤(b.toNat:Int))(h2:(b.toNat:Int)≤126):byteOk b=true:=by
 have e1:32≤b.toNat:=by omega
 have e2:b.toNat≤126:=by omega
 simp[byteOk,e1,e2]
theorem l3Plain_any(s:ByteArray)(most:Int)(w:World)(hn:s.size≤maxLen):
 Calls Tryz.prog 81 #[.string s,.int .i64 most] w fun e w'=>e= .returned (.bool (plainB s most))∧w'=w:=by
 unfold maxLen at hn;go_enter Tryz.func81,Tryz.ntmps81
 go_wp2;go_loop [5] (fun i=>∃k:Nat,k≤s.size∧i= .int .i64 k∧(∀(j:Nat) (hj:j<s.size),j<k→byteOk s[j]=true)) (fun i=>s.size-(intOf i).toNat)
 case atStart=>exact⟨0,Nat.zero_le _,rfl,fun j _ hj=>by omega⟩
 case round=>
  obtain⟨k,hk,rfl,hall⟩:=hrel;have HA:Hid (∀(j:Nat) (hj:j<s.size),j<k→byteOk s[j]=true):=hall;clear hall;by_cases hlt:k<s.size
  ·have hki:(k:Int)<(s.size:Int):=(by omega);go_wp2
   ·go_ret;rename_i h1 h2 _;refine⟨ret_bool (plain_at hlt ?_).symm,rfl⟩;rcases h2 with h2|h2
    ·exact byteOk_lo h2
    ·exact byteOk_hi h2
   ·rename_i h1 h2;go_round;case rel=>
     refine⟨k+1,by omega,by go_num,fun j hj hjk=>?_⟩;by_cases e:j=k
     ·subst e;exact byteOk_yes h2.1 h2.2
     ·exact HA.out j hj (by omega)
    case measure=>simp[intOf];omega
   ·go_ret;rename_i h1;exact⟨ret_bool (plain_at hlt (byteOk_lo h1)).symm,rfl⟩
  ·have hki:¬(k:Int)<(s.size:Int):=(by omega);go_wp2;go_ret;exact⟨ret_bool (plain_all (fun j hj=>HA.out j hj (by omega))).symm,rfl⟩
theorem bytesWorld_below(w:World)(e:TypeId)(s:ByteArray):Below w.heap.size w (Lib.bytesWorld w e s):=
 ⟨rfl,rfl,rfl,by rw[Lib.bytesWorld_size];omega,fun k hk=>Lib.bytesWorld_at_old w e s k hk⟩
theorem isData_any(s:ByteArray)(w:World)(hn:s.size≤maxLen):
 Calls Tryz.prog 122 #[.string s] w fun e w'=>e= .returned (.bool (plainB s 40))∧Below w.heap.size w w':=by
 unfold maxLen at hn;by_cases h40:40<s.size
 ·have h40':(40:Int)<(s.size:Int):=by omega
  go_enter Tryz.func122,Tryz.ntmps122
  go_wp2;go_ret;have:¬(s.size:Int)≤40:=by omega
  exact⟨ret_bool (by simp[plainB,this]),Below.refl _ _⟩
 ·have h40':(s.size:Int)≤40:=by omega
  have kc:=fun(w:World) (s:ByteArray)=>Lib.run_convert_string_bytes (P:=Tryz.prog) w 9 22 5 s Tryz.underlying9 Tryz.underlying22 Tryz.underlying5;go_enter Tryz.func122,Tryz.ntmps122
  go_wp2_with fail
  have hB:=bytesWorld_below w 5 s;have hcell:∀(j:Nat) (hj:j<s.size),(Lib.bytesWorld w 5 s).cell? ⟨w.heap.size,j,none⟩=some (.int .u8 (s[j].toNat:Int)):=fun j hj=>by
   rw[Lib.bytesWorld_cell w 5 s j hj];have e:s.data.toList.getD j 0=s[j]:=by
    have hj':j<s.data.toList.length:=(by simpa using hj);rw[List.getD_eq_getElem?_getD,List.getElem?_eq_getElem hj'];rfl
   rw[e]
  generalize Lib.bytesWorld w 5 s=W at *;generalize grownCap w s.size 0 5=cp at *;go_loop [11] (fun i=>∃k:Nat,k≤s.size∧i= .int .i64 k∧(∀(j:Nat) (hj:j<s.size),j<k→byteOk s[j]=true)) (fun i=>s.size-(intOf i).toNat)
  case atStart=>exact⟨0,Nat.zero_le _,rfl,fun j _ hj=>by omega⟩
  case round=>
   obtain⟨k,hk,rfl,hall⟩:=hrel;have HA:Hid (∀(j:Nat) (hj:j<s.size),j<k→byteOk s[j]=true):=hall;clear hall;by_cases hlt:k<s.size
   ·have hki:(k:Int)<(s.size:Int):=(by omega);have hc:=hcell k hlt;clear hcell;go_wp2
    ·go_ret;rename_i h1 h2 _;refine⟨ret_bool (plain_at hlt ?_).symm,hB⟩;rcases h2 with h2|h2
     ·exact byteOk_lo h2
     ·exact byteOk_hi h2
    ·rename_i h1 h2;go_round;case rel=>
      refine⟨k+1,by omega,by go_num,fun j hj hjk=>?_⟩;by_cases e:j=k
      ·subst e;exact byteOk_yes h2.1 h2.2
      ·exact HA.out j hj (by omega)
     case measure=>simp[intOf];omega
    ·go_ret;rename_i h1;exact⟨ret_bool (plain_at hlt (byteOk_lo h1)).symm,hB⟩
   ·have hki:¬(k:Int)<(s.size:Int):=(by omega);clear hcell;go_wp2;go_ret;exact⟨ret_bool (by rw[plain_all (fun j hj=>HA.out j hj (by omega))];simpa using h40'),hB⟩
def zeroB(base:Int)(n:Nat):Bool:=(base==0)&&(n==0)
def uId(kind:Int):Bool:=kind==2||kind==3||kind==4||kind==5||kind==6||kind==7||kind==8||kind==9||kind==10||kind==11||kind==13||kind==15
def uTo(kind:Int):Bool:=kind==8
def uCat(kind:Int):Bool:=kind==5||kind==14
def uData(kind:Int):Bool:=kind==6||kind==9
def uLabel(kind:Int):Bool:=kind==2||kind==3||kind==4||kind==5||kind==12
def uClear(kind:Int):Bool:=kind==5
def uOk(kind:Int):Bool:=kind==1||kind==2||kind==3||kind==4||kind==5||kind==6||kind==7||kind==8||kind==9||kind==10||kind==11||kind==12||kind==13||kind==14||kind==15
def numB(n:Int)(used:Bool):Bool:=if used then inB n 1 9030 else n==0
def catB(kind cat:Int)(used:Bool):Bool:=if cat==0 then kind != 14 else used&&inB cat 1 9999
theorem isZero_any(base:Int)(a:Option Addr)(n cap:Nat)(w:World)(hn:n≤maxLen):
 Calls Tryz.prog 124 #[.agg #[.int .i64 base,.slice a n cap]] w fun e w'=>e= .returned (.bool (zeroB base n))∧Below w.heap.size w w':=by
 unfold maxLen at hn;have hb0:=(Below.refl _ w).alloc (Nat.le_refl _) (.cells #[.int .i64 base,.slice a n cap] 30);cases t:(base==0)with
 |true=>
  go_enter Tryz.func124,Tryz.ntmps124
  go_wp2;go_ret;refine⟨ret_bool ?_,hb0⟩;unfold zeroB;rw[t,Bool.true_and];by_cases e:n=0
  ·subst e;rfl
  ·have e1:(n==0)=false:=(by simpa using e);rw[e1];simp;omega
 |false=>
  go_enter Tryz.func124,Tryz.ntmps124
  go_wp2;go_ret;exact⟨ret_bool (by simp[zeroB,t]),hb0⟩
def itemsB(n:Nat)(f:Nat→ByteArray):Bool:=decide (n≤8)&&(List.range n).all (fun i=>plainB (f i) 40)
theorem itemsB_len{n:Nat}{f:Nat→ByteArray}(e:8<n):itemsB n f=false:=by
 have:decide (n≤8)=false:=by simp;omega
 simp[itemsB,this]
theorem itemsB_at{n k:Nat}{f:Nat→ByteArray}(hk:k<n)(e:plainB (f k) 40=false):itemsB n f=false:=by
 have:(List.range n).all (fun i=>plainB (f i) 40)=false:=by
  rw[List.all_eq_false];exact⟨k,List.mem_range.2 hk,by simp[e]⟩
 simp[itemsB,this]
theorem itemsB_all{n:Nat}{f:Nat→ByteArray}(e:∀i,i<n→plainB (f i) 40=true):itemsB n f=decide (n≤8):=by
 have:(List.range n).all (fun i=>plainB (f i) 40)=true:=by
  rw[List.all_eq_true];intro i hi;exact e i (List.mem_range.1 hi)
 simp[itemsB,this]
theorem itemsB_out{n:Nat}{f:Nat→ByteArray}(e:itemsB n f=true):n≤8∧∀i,i<n→plainB (f i) 40=true:=by
 simp only[itemsB,Bool.and_eq_true,decide_eq_true_eq,List.all_eq_true,List.mem_range]at e;exact e
theorem itemsOk_any(a:Option Addr)(n cap:Nat)(f:Nat→ByteArray)(w:World)(hn:n≤maxLen)(hc:StrAt w a n f)(hz:∀i,i<n→(f i).size≤maxLen):
 Calls Tryz.prog 123 #[.slice a n cap] w fun e w'=>e= .returned (.bool (itemsB n f))∧Below w.heap.size w w':=by
 unfold maxLen at hn;have HC:=hid hc;have HZ:=hid hz;clear hc hz;by_cases h8:8<n
 ·have h8':(8:Int)<(n:Int):=by omega
  go_enter Tryz.func123,Tryz.ntmps123
  go_wp2;go_ret;exact⟨ret_bool (itemsB_len h8).symm,Below.refl _ _⟩
 ·have h8':¬(8:Int)<(n:Int):=by omega
  go_enter Tryz.func123,Tryz.ntmps123
  go_wp2;go_loopw [10] (fun i wr=>∃k:Nat,k≤n∧i= .int .i64 k∧Hid (∀j,j<k→plainB (f j) 40=true)∧Below w.heap.size w wr) (fun i _=>n-(intOf i).toNat)
  case atStart=>exact⟨0,Nat.zero_le _,rfl,hid (fun j hj=>by omega),Below.refl _ _⟩
  case round=>
   obtain⟨k,hk,rfl,HA,hB⟩:=hrel;by_cases hlt:k<n
   ·obtain⟨b,off,rfl,hlt0,hcc⟩:=HC.out.below hB (by omega);have g1:=hcc k hlt;have z:=HZ.out k hlt;have i1:(k:Int)<(n:Int):=(by omega);clear hcc;go_wp2_with fail
    refine(isData_any _ _ z).mono ?_;rintro e w1 ⟨rfl,hb1⟩;have B1:=then_ hB hb1;clear g1;by_cases t:plainB (f k) 40=true
    ·have HA2:Hid (∀j,j<k+1→plainB (f j) 40=true):=hid (fun j hj=>by
      by_cases e:j=k
      ·subst e;exact t
      ·exact HA.out j (by omega))
     go_wp2;exact⟨⟨k+1,by omega,by go_num,HA2,B1⟩,by simp[intOf];omega⟩
    ·have t':plainB (f k) 40=false:=(by simpa using t);clear t;go_wp2;go_ret;exact⟨ret_bool (itemsB_at hlt t').symm,B1⟩
   ·go_wp2;go_ret;have e:k=n:=(by omega);subst e;exact⟨ret_bool (by rw[itemsB_all HA.out];simp;omega),hB⟩
def kindB(t:ObjV):Bool:=
 if t.kind=1 then t.items.n==0&&(t.own.n==0&&zeroB t.b2 t.c2.n)
 else if t.kind=2 then t.data.toList.isEmpty&&(t.own.n==0&&zeroB t.b2 t.c2.n)
 else if t.kind=3 then t.data.toList.isEmpty&&t.items.n==0&&(t.own.n==0&&zeroB t.b2 t.c2.n)
 else if t.kind=4 then t.data.toList.isEmpty&&t.items.n==0
 else false
def objOk(t:ObjV):Bool:=labOk t.b1 t.c1.n t.c1.f t.c1.g&&labOk t.b2 t.c2.n t.c2.f t.c2.g&&ownOk t.own.n t.own.h&&plainB t.data 40&&itemsB t.items.n t.items.f&&kindB t
theorem natz(n:Nat):((n:Int)==0)=(n==0):=by
 by_cases e:n=0
 ·subst e;rfl
 ·have e1:(n==0)=false:=by simpa using e
  rw[e1];simp;omega
theorem labOk_v(b:Int)(c:CatL)(w:World)(hc:c.at w):
 Calls Tryz.prog 50 #[.agg #[.int .i64 b,c.val]] w fun e w'=>e= .returned (.bool (labOk b c.n c.f c.g))∧Below w.heap.size w w':=implOk_any b c.a c.n c.k c.f c.g w hc.1 hc.2
theorem ownOk_v(c:IntL)(w:World)(hc:c.at w):
 Calls Tryz.prog 121 #[c.val] w fun e w'=>e= .returned (.bool (ownOk c.n c.h))∧w'=w:=ownsOk_any c.a c.n c.k c.h w hc.1 hc.2
theorem items_v(c:StrL)(w:World)(hc:c.at w):
 Calls Tryz.prog 123 #[c.val] w fun e w'=>e= .returned (.bool (itemsB c.n c.f))∧Below w.heap.size w w':=itemsOk_any c.a c.n c.k c.f w hc.1 hc.2.1 hc.2.2
theorem zero_v(b:Int)(c:CatL)(w:World)(hc:c.at w):
 Calls Tryz.prog 124 #[.agg #[.int .i64 b,c.val]] w fun e w'=>e= .returned (.bool (zeroB b c.n))∧Below w.heap.size w w':=isZero_any b c.a c.n c.k w hc.1
theorem objectOk_any(t:ObjV)(w:World)(ht:t.at w):
 Calls Tryz.prog 99 #[t.val] w fun e w'=>e= .returned (.bool (objOk t))∧Below w.heap.size w w':=by
 have hb0:=(Below.refl _ w).alloc (Nat.le_refl _) (.cells #[.int .i64 t.id,.int .i64 t.kind,.int .i64 t.up,.int .i64 t.b1,t.c1.val,.string t.data,t.items.val,t.own.val,.int .i64 t.b2,t.c2.val] 42);have A0:=Blk.new w (.cells #[.int .i64 t.id,.int .i64 t.kind,.int .i64 t.up,.int .i64 t.b1,t.c1.val,.string t.data,t.items.val,t.own.val,.int .i64 t.b2,t.c2.val] 42);have T0:=hid (ht.below hb0);unfold ObjV.val;obtain⟨x0,x1,x2,x3,x4,x5,x6,x7,x8,x9⟩:=A0.ten;clear ht;go_enter Tryz.func99,Tryz.ntmps99
 go_wp2_with fail
 refine(labOk_v _ t.c1 _ T0.out.1).mono ?_;rintro e w1 ⟨rfl,hb1⟩;have A1:=A0.below hb1;have T1:=hid (T0.out.below hb1);have B1:=then_ hb0 hb1;clear x0 x1 x2 x3 x4 x5 x6 x7 x8 x9 A0 T0 hb0 hb1;obtain⟨x0,x1,x2,x3,x4,x5,x6,x7,x8,x9⟩:=A1.ten;cases t1:labOk t.b1 t.c1.n t.c1.f t.c1.g with
 |false=>
  go_wp2;go_ret;exact⟨ret_bool (by simp[objOk,t1]),B1⟩
 |true=>
 go_wp2_with fail
 refine(labOk_v _ t.c2 _ T1.out.2.2.2.1).mono ?_;rintro e w2 ⟨rfl,hb2⟩;have A2:=A1.below hb2;have T2:=hid (T1.out.below hb2);have B2:=then_ B1 hb2;clear x0 x1 x2 x3 x4 x5 x6 x7 x8 x9 A1 T1 B1 hb2;obtain⟨x0,x1,x2,x3,x4,x5,x6,x7,x8,x9⟩:=A2.ten;cases t2:labOk t.b2 t.c2.n t.c2.f t.c2.g with
 |false=>
  go_wp2;go_ret;exact⟨ret_bool (by simp[objOk,t2]),B2⟩
 |true=>
 go_wp2_with fail
 refine(ownOk_v t.own _ T2.out.2.2.1).mono ?_;rintro e w3 ⟨rfl,rfl⟩;cases t3:ownOk t.own.n t.own.h with
 |false=>
  go_wp2;go_ret;exact⟨ret_bool (by simp[objOk,t3]),B2⟩
 |true=>
 go_wp2_with fail
 refine(isData_any t.data _ T2.out.2.2.2.2).mono ?_;rintro e w4 ⟨rfl,hb4⟩;have A4:=A2.below hb4;have T4:=hid (T2.out.below hb4);have B4:=then_ B2 hb4;clear x0 x1 x2 x3 x4 x5 x6 x7 x8 x9 A2 T2 B2 hb4;obtain⟨x0,x1,x2,x3,x4,x5,x6,x7,x8,x9⟩:=A4.ten;cases t4:plainB t.data 40 with
 |false=>
  go_wp2;go_ret;exact⟨ret_bool (by simp[objOk,t4]),B4⟩
 |true=>
 go_wp2_with fail
 refine(items_v t.items _ T4.out.2.1).mono ?_;rintro e w5 ⟨rfl,hb5⟩;have A5:=A4.below hb5;have T5:=hid (T4.out.below hb5);have B5:=then_ B4 hb5;clear x0 x1 x2 x3 x4 x5 x6 x7 x8 x9 A4 T4 B4 hb5;obtain⟨x0,x1,x2,x3,x4,x5,x6,x7,x8,x9⟩:=A5.ten;cases t5:itemsB t.items.n t.items.f with
 |false=>
  go_wp2;go_ret;exact⟨ret_bool (by simp[objOk,t5]),B5⟩
 |true=>
 have OK:Hid (objOk t=kindB t):=hid (by simp[objOk,t1,t2,t3,t4,t5]);clear t1 t2 t3 t4 t5;unfold StrL.val at x6;go_wp2_with fail
 have hn5:=T5.out.2.1.1;unfold maxLen at hn5;go_quiet(fail)
 unfold IntL.val at x7;have hn6:=T5.out.2.2.1.1;unfold maxLen at hn6;have Z:=hid (zero_v t.b2 t.c2 _ (T5.out.below (below_drewN (Below.refl _ w5) nq)).2.2.2.1);have B6:=below_drewN B5 nq;go_wp2_with(go_at_call 124;refine Z.out.mono ?_;rintro e w6 ⟨rfl,hb6⟩;have x1':=(hb6.cell (p:=⟨w.heap.size,1,none⟩) A5.lt).trans x1;have B7:=then_ B6 hb6)
 all_goals
  go_ret;refine⟨ret_bool ?_,by assumption⟩;rw[OK.out];first
  |(simp_all[kindB];done)
  |(simp_all[kindB];exact natz _)
def findI(ids:Nat→Int)(n:Nat)(x:Int):Option Nat:=(List.range n).find? (fun j=>ids j==x)
def par(ids ups:Nat→Int)(n i:Nat):Option Nat:=if i=0 then none else findI ids n (ups i)
def parIt(ids ups:Nat→Int)(n:Nat):Nat→Nat→Option Nat
 |0,i=>some i
 |m+1,i=>(par ids ups n i).bind (parIt ids ups n m)
def kidsI(ids ups:Nat→Int)(n i:Nat):List Nat:=(List.range n).filter (fun j=>ups j==ids i)
def preI(ids ups:Nat→Int)(n:Nat):Nat→Nat→List Nat
 |0,_=>[]
 |f+1,i=>i::(kidsI ids ups n i).flatMap (preI ids ups n f)
def Rises(ids:Nat→Int)(n:Nat):Prop:=∀i j,i<j→j<n→ids i<ids j
theorem findI_some{ids:Nat→Int}{n:Nat}{x:Int}{j:Nat}(h:findI ids n x=some j):j<n∧ids j=x:=by
 unfold findI at h;exact⟨List.mem_range.1 (List.mem_of_find?_eq_some h),by simpa using List.find?_some h⟩
theorem findI_none{ids:Nat→Int}{n:Nat}{x:Int}(h:findI ids n x=none):∀j,j<n→ids j≠x:=by
 unfold findI at h;rw[List.find?_eq_none]at h;intro j hj e;have:=h j (List.mem_range.2 hj);simp[e]at this
theorem Rises.inj{ids:Nat→Int}{n:Nat}(h:Rises ids n){i j:Nat}(hi:i<n)(hj:j<n)(e:ids i=ids j):i=j:=by
 rcases Nat.lt_trichotomy i j with h1|h1|h1
 ·have:=h i j h1 hj;omega
 ·exact h1
 ·have:=h j i h1 hi;omega
theorem findI_eq{ids:Nat→Int}{n:Nat}(h:Rises ids n){j:Nat}(hj:j<n):findI ids n (ids j)=some j:=by
 cases e:findI ids n (ids j)with
 |none=>exact absurd rfl (findI_none e j hj)
 |some k=>
  obtain⟨h1,h2⟩:=findI_some e;rw[h.inj h1 hj h2]
section
variable {ids ups:Nat→Int}{n:Nat}
theorem parIt_add(a b i:Nat):parIt ids ups n (a+b) i=(parIt ids ups n a i).bind (parIt ids ups n b):=by
 induction a generalizing i with
 |zero=>simp[parIt]
 |succ a ih=>
  rw[Nat.succ_add];simp only[parIt];cases par ids ups n i with
  |none=>rfl
  |some k=>simp only[Option.bind_some];exact ih k
theorem parIt_one(i:Nat):parIt ids ups n 1 i=par ids ups n i:=by
 simp only[parIt];cases par ids ups n i<;>rfl
theorem parIt_succ'(m i:Nat):parIt ids ups n (m+1) i=(parIt ids ups n m i).bind (par ids ups n):=by
 rw[parIt_add];congr 1;funext j;exact parIt_one j
theorem par_lt{i j:Nat}(h:par ids ups n i=some j):j<n:=by
 unfold par at h;split at h
 ·cases h
 ·exact(findI_some h).1
theorem parIt_lt{m i j:Nat}(hi:i<n)(h:parIt ids ups n m i=some j):j<n:=by
 cases m with
 |zero=>simp only[parIt,Option.some.injEq]at h;omega
 |succ m=>
  rw[parIt_succ']at h;cases e:parIt ids ups n m i with
  |none=>simp[e]at h
  |some k=>simp only[e,Option.bind_some]at h;exact par_lt h
def NoCyc(ids ups:Nat→Int)(n i:Nat):Prop:=∀p,parIt ids ups n (p+1) i≠some i
theorem noCyc_zero:NoCyc ids ups n 0:=fun p h=>by simp[parIt,par]at h
theorem noCyc_kid{i k:Nat}(h:NoCyc ids ups n i)(hk:par ids ups n k=some i):NoCyc ids ups n k:=fun p e=>by
 have e1:parIt ids ups n p i=some k:=by
  have:=e;simp only[parIt,hk,Option.bind_some]at this;exact this
 exact h p (by rw[parIt_succ',e1];exact hk)
theorem noCyc_down{i k m:Nat}(h:NoCyc ids ups n i)(hk:parIt ids ups n m k=some i):NoCyc ids ups n k:=fun p e=>by
 have e2:parIt ids ups n (p+1+m) k=some i:=by rw[parIt_add,e];exact hk
 rw[Nat.add_comm,parIt_add,hk]at e2;exact h p e2
theorem length_count(n:Nat)(l:List Nat)(h:∀x∈l,x<n):l.length=((List.range n).map (fun j=>l.count j)).sum:=by
 induction l with
 |nil=>
  have:∀L:List Nat,(L.map (fun j=>([]:List Nat).count j)).sum=0:=by
   intro L;induction L with
   |nil=>rfl
   |cons a L ih=>rw[List.map_cons,List.sum_cons,ih];rfl
  rw[this];rfl
 |cons a l ih=>
  have h1:=ih (fun x hx=>h x (List.mem_cons_of_mem _ hx));have ha:a<n:=h a List.mem_cons_self;have key:∀N,(((List.range N).map (fun j=>(a::l).count j)).sum)=((List.range N).map (fun j=>l.count j)).sum+(if a<N then 1 else 0):=by
   intro N;induction N with
   |zero=>simp
   |succ N ihN=>
    rw[List.range_succ,List.map_append,List.sum_append,List.map_append,List.sum_append,ihN];simp only[List.map_cons,List.map_nil,List.sum_cons,List.sum_nil,List.count_cons];by_cases e:a=N
    ·subst e;simp;omega
    ·have e1:(a==N)=false:=(by simpa using e);simp only[e1];by_cases e2:a<N
     ·have:a<N+1:=(by omega);simp[e2,this];omega
     ·have:¬a<N+1:=(by omega);simp[e2,this]
  rw[key,if_pos ha,List.length_cons,h1]
theorem sum_le_len(n:Nat)(c:Nat→Nat)(h:∀j,c j≤1):((List.range n).map c).sum≤n:=by
 induction n with
 |zero=>simp
 |succ n ih=>rw[List.range_succ,List.map_append,List.sum_append];have:=h n;simp;omega
theorem sum_full(n:Nat)(c:Nat→Nat)(h:∀j,c j≤1)(e:((List.range n).map c).sum=n):∀j,j<n→c j=1:=by
 induction n with
 |zero=>intro j hj;omega
 |succ n ih=>
  rw[List.range_succ,List.map_append,List.sum_append]at e;simp at e;have h1:=sum_le_len n c h;have h2:=h n;intro j hj;by_cases e1:j=n
  ·subst e1;omega
  ·exact ih (by omega) j (by omega)
theorem sum_all(n:Nat)(c:Nat→Nat)(h:∀j,j<n→c j=1):((List.range n).map c).sum=n:=by
 induction n with
 |zero=>simp
 |succ n ih=>rw[List.range_succ,List.map_append,List.sum_append,ih (fun j hj=>h j (by omega))];simp[h n (by omega)]
theorem nodup_len{l:List Nat}(hl:l.Nodup)(h:∀x∈l,x<n):l.length≤n:=by
 rw[length_count n l h];exact sum_le_len n _ (fun j=>List.nodup_iff_count.1 hl j)
theorem nodup_full{l:List Nat}(hl:l.Nodup)(h:∀x∈l,x<n):l.length=n↔∀j,j<n→j∈l:=by
 constructor
 ·intro e j hj;rw[length_count n l h]at e;have:=sum_full n _ (fun j=>List.nodup_iff_count.1 hl j) e j hj;exact List.count_pos_iff.1 (by omega)
 ·intro e;rw[length_count n l h];refine sum_all n _ (fun j hj=>?_);have h1:=List.nodup_iff_count.1 hl j;have h2:=List.count_pos_iff.2 (e j hj);omega
theorem height{i j m:Nat}(hc:NoCyc ids ups n i)(hj:j<n)(h:parIt ids ups n m j=some i):m<n:=by
 have each:∀q,q≤m→∃x,parIt ids ups n q j=some x:=fun q hq=>by
  have e:m=q+(m-q):=by omega
  rw[e,parIt_add]at h;cases e1:parIt ids ups n q j with
  |none=>simp[e1]at h
  |some x=>exact⟨x,rfl⟩
 have hl:((List.range (m+1)).map (fun q=>(parIt ids ups n q j).getD 0)).Nodup:=by
  rw[List.Nodup,List.pairwise_map];refine List.Pairwise.imp_of_mem ?_ (List.pairwise_lt_range (n:=m+1));intro a b ha hb hab e;have ha':=List.mem_range.1 ha;have hb':=List.mem_range.1 hb;obtain⟨x,hx⟩:=each a (by omega);obtain⟨y,hy⟩:=each b (by omega);simp only[hx,hy,Option.getD_some]at e;subst e;have e1:b=a+(b-a-1+1):=by omega
  rw[e1,parIt_add,hx,Option.bind_some]at hy;have e2:m=a+(m-a):=by omega
  rw[e2,parIt_add,hx,Option.bind_some]at h;exact noCyc_down hc h _ hy
 have:=nodup_len (n:=n) hl (by
  intro x hx;obtain⟨q,hq,rfl⟩:=List.mem_map.1 hx;have hq':=List.mem_range.1 hq;obtain⟨y,hy⟩:=each q (by omega);rw[hy];exact parIt_lt hj hy)
 simp at this;omega
theorem mem_kids(hr:Rises ids n)(h0:∀j,j<n→ids j≠ups 0){i k:Nat}(hi:i<n):k∈kidsI ids ups n i↔k<n∧par ids ups n k=some i:=by
 unfold kidsI;rw[List.mem_filter,List.mem_range];constructor
 ·rintro⟨h1,h2⟩;refine⟨h1,?_⟩;have h2':ups k=ids i:=by simpa using h2
  unfold par;split
  ·rename_i e;subst e;exact absurd h2'.symm (h0 i hi)
  ·rw[h2'];exact findI_eq hr hi
 ·rintro⟨h1,h2⟩;refine⟨h1,?_⟩;unfold par at h2;split at h2
  ·cases h2
  ·simp[(findI_some h2).2]
theorem mem_pre(hr:Rises ids n)(h0:∀j,j<n→ids j≠ups 0){f i j:Nat}(hi:i<n):j∈preI ids ups n f i↔j<n∧∃m,m<f∧parIt ids ups n m j=some i:=by
 induction f generalizing i with
 |zero=>simp[preI]
 |succ f ih=>
  simp only[preI,List.mem_cons,List.mem_flatMap];constructor
  ·rintro(rfl|⟨k,hk,hj⟩)
   ·exact⟨hi,0,by omega,rfl⟩
   ·obtain⟨k1,k2⟩:=(mem_kids hr h0 hi).1 hk;obtain⟨hj',m,hm,e⟩:=(ih k1).1 hj;exact⟨hj',m+1,by omega,by rw[parIt_succ',e];exact k2⟩
  ·rintro⟨hj,m,hm,e⟩;cases m with
   |zero=>simp only[parIt,Option.some.injEq]at e;exact .inl e
   |succ m=>
    rw[parIt_succ']at e;cases e1:parIt ids ups n m j with
    |none=>simp[e1]at e
    |some k=>
     simp only[e1,Option.bind_some]at e;have hk:=parIt_lt hj e1;exact .inr ⟨k,(mem_kids hr h0 hi).2 ⟨hk,e⟩,(ih hk).2 ⟨hj,m,by omega,e1⟩⟩
theorem nodup_pre(hr:Rises ids n)(h0:∀j,j<n→ids j≠ups 0){f i:Nat}(hi:i<n)(hc:NoCyc ids ups n i):(preI ids ups n f i).Nodup:=by
 induction f generalizing i with
 |zero=>simp[preI]
 |succ f ih=>
  simp only[preI,List.nodup_cons,List.mem_flatMap];refine⟨?_,?_⟩
  ·rintro⟨k,hk,hj⟩;obtain⟨k1,k2⟩:=(mem_kids hr h0 hi).1 hk;obtain⟨_,m,_,e⟩:=(mem_pre hr h0 k1).1 hj;exact hc m (by rw[parIt_succ',e];exact k2)
  ·rw[List.Nodup,List.pairwise_flatMap];refine⟨fun k hk=>?_,?_⟩
   ·obtain⟨k1,k2⟩:=(mem_kids hr h0 hi).1 hk;exact ih k1 (noCyc_kid hc k2)
   ·have hn:(kidsI ids ups n i).Nodup:=List.Nodup.sublist List.filter_sublist List.nodup_range;refine List.Pairwise.imp_of_mem ?_ hn;intro a b ha hb hab x hx y hy exy;subst exy;obtain⟨a1,a2⟩:=(mem_kids hr h0 hi).1 ha;obtain⟨b1,b2⟩:=(mem_kids hr h0 hi).1 hb;obtain⟨_,p,_,ep⟩:=(mem_pre hr h0 a1).1 hx;obtain⟨_,q,_,eq⟩:=(mem_pre hr h0 b1).1 hy;have far:∀{a b p q:Nat},par ids ups n a=some i→par ids ups n b=some i→parIt ids ups n p x=some a→parIt ids ups n q x=some b→p<q→False:=by
     intro a b p q a2 b2 ep eq hpq;have e1:q=p+(q-p-1+1):=(by omega);rw[e1,parIt_add,ep,Option.bind_some]at eq;simp only[parIt,a2,Option.bind_some]at eq;exact hc (q-p-1) (by rw[parIt_succ',eq];exact b2)
    rcases Nat.lt_trichotomy p q with h|h|h
    ·exact far a2 b2 ep eq h
    ·subst h;rw[ep]at eq;exact hab (by simpa using eq)
    ·exact far b2 a2 eq ep h
def reachB(ids ups:Nat→Int)(n:Nat):Bool:=(List.range n).all fun i=>(List.range n).any fun m=>parIt ids ups n m i==some 0
theorem reachB_iff:reachB ids ups n=true↔∀i,i<n→∃m,m<n∧parIt ids ups n m i=some 0:=by
 simp only[reachB,List.all_eq_true,List.any_eq_true,List.mem_range,beq_iff_eq]
theorem pre_full(hr:Rises ids n)(h0:∀j,j<n→ids j≠ups 0)(hn:0<n):((preI ids ups n n 0).length=n)↔reachB ids ups n=true:=by
 rw[nodup_full (nodup_pre hr h0 hn noCyc_zero) (fun x hx=>((mem_pre hr h0 hn).1 hx).1),reachB_iff];constructor
 ·intro h i hi;exact((mem_pre hr h0 hn).1 (h i hi)).2
 ·intro h i hi;exact(mem_pre hr h0 hn).2 ⟨hi,h i hi⟩
theorem noCyc_of_reach{i m:Nat}(h:parIt ids ups n m i=some 0):NoCyc ids ups n i:=noCyc_down noCyc_zero h
end
end Go.Proofs.YtbacmamplkdgaaaGreatDoor
