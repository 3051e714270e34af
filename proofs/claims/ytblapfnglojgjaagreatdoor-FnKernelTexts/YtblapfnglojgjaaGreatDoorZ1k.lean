import Derived.Lib.ConvBytes
import Derived.Test.YtblapfnglojgjaaGreatDoorZ0k
set_option maxRecDepth 100000
set_option maxHeartbeats 4000000
namespace Go.Proofs.YtblapfnglojgjaaGreatDoor
open Go.RowKit Go.Deep Go.Proofs.Tryz
def Fa(id made b1:Int)(n1:Nat)(f1 g1:Nat->Int)(b2:Int)(n2:Nat)(f2 g2:Nat->Int)(n3:Nat)(h:Nat->Int):Bool:=
 Ed id 1 9&&AO b1 n1 f1 g1&&AO b2 n2 f2 g2&&Cg n3 h&&Ed made 0 30
theorem Xx{id made b1:Int}{n1:Nat}{f1 g1:Nat->Int}{b2:Int}{n2:Nat}{f2 g2:Nat->Int}{n3:Nat}{h:Nat->Int}(t0:Ed id 1 9=true)(t1:AO b1 n1 f1 g1=true)(t2:AO b2 n2 f2 g2=true)(t3:Cg n3 h=true):
 Fa id made b1 n1 f1 g1 b2 n2 f2 g2 n3 h=Ed made 0 30:=by simp[Fa,t0,t1,t2,t3]
theorem UL(id made b1:Int)(a1:Option Addr)(n1 k1:Nat)(f1 g1:Nat->Int)(b2:Int)(a2:Option Addr)(n2 k2:Nat)(f2 g2:Nat->Int)(a3:Option Addr)(n3 k3:Nat)(h:Nat->Int)(w:World)
 (hn1:n1<=maxLen)(hn2:n2<=maxLen)(hn3:n3<=maxLen)(hc1:Bi w a1 n1 f1 g1)(hc2:Bi w a2 n2 f2 g2)(hc3:Ce w a3 n3 h):
 Calls prog 47 #[.agg #[.int .i64 id,.int .i64 b1,.slice a1 n1 k1,.int .i64 b2,.slice a2 n2 k2,.slice a3 n3 k3,.int .i64 made]] w fun e w'=>e= .returned (.bool (Fa id made b1 n1 f1 g1 b2 n2 f2 g2 n3 h))/\Below w w w':=by
 have hb0:=CY w (.cells #[.int .i64 id,.int .i64 b1,.slice a1 n1 k1,.int .i64 b2,.slice a2 n2 k2,.slice a3 n3 k3,.int .i64 made] 47);have C1:=hc1.below hb0;have C2:=hc2.below hb0;have C3:=hc3.below hb0;clear hc1 hc2 hc3;by_cases t0:Ed id 1 9=true
 ·skip;go_enter func47,ntmps47
  go_wp2_with(go_at_call 51;refine(BN _ _ _ _).mono ?_;rintro e w' ⟨rfl,rfl⟩)
  refine(GC _ _ _ _ f1 g1 _ hn1 C1).mono ?_;rintro e w1 ⟨rfl,hb1⟩;obtain⟨q1,_⟩:=Oc hb1;have z1:w.heap.size<w1.heap.size:=by have:=hb1.size;simp at this;omega
  have B1:Below w w w1:=hb0.trans (hb1.mono (by simp));by_cases t1:AO b1 n1 f1 g1=true
  ·go_wp2_with fail
   refine(GC _ _ _ _ f2 g2 _ hn2 (C2.below hb1)).mono ?_;rintro e w2 ⟨rfl,hb2⟩;obtain⟨q2,_⟩:=Oc hb2;have z2:w.heap.size<w2.heap.size:=(by have:=hb2.size;omega);have B2:Below w w w2:=B1.trans (hb2.mono (by omega));by_cases t2:AO b2 n2 f2 g2=true
   ·go_wp2_with fail
    refine(NS _ _ _ h _ hn3 ((C3.below hb1).below hb2)).mono ?_;rintro e w3 ⟨rfl,hb3⟩;obtain⟨q3,_⟩:=Oc hb3;have z3:w.heap.size<w3.heap.size:=(by have:=hb3.size;omega);have B3:Below w w w3:=B2.trans (hb3.mono (by omega));by_cases t3:Cg n3 h=true
    ·go_wp2_with(go_at_call 51;refine(BN _ _ _ _).mono ?_;rintro e w' ⟨rfl,rfl⟩)
     go_ret;exact⟨Ag (by simp[Fa,t0,t1,t2,t3]),B3⟩
    ·have t3':Cg n3 h=false:=(by simpa using t3);clear t3;go_wp2;go_ret;exact⟨Ag (by simp[Fa,t3']),B3⟩
   ·have t2':AO b2 n2 f2 g2=false:=(by simpa using t2);clear t2;go_wp2;go_ret;exact⟨Ag (by simp[Fa,t2']),B2⟩
  ·have t1':AO b1 n1 f1 g1=false:=(by simpa using t1);clear t1;go_wp2;go_ret;exact⟨Ag (by simp[Fa,t1']),B1⟩
 ·have t0':Ed id 1 9=false:=by simpa using t0
  clear t0;go_enter func47,ntmps47
  go_wp2_with(go_at_call 51;refine(BN _ _ _ _).mono ?_;rintro e w' ⟨rfl,rfl⟩)
  go_ret;exact⟨Ag (by simp[Fa,t0']),hb0⟩
theorem TA(id made b1:Int)(a1:Option Addr)(n1 k1:Nat)(f1 g1:Nat->Int)(b2:Int)(a2:Option Addr)(n2 k2:Nat)(f2 g2:Nat->Int)(a3:Option Addr)(n3 k3:Nat)(h:Nat->Int)(w:World)
 (hn1:n1<=maxLen)(hn2:n2<=maxLen)(hn3:n3<=maxLen)(hc1:Bi w a1 n1 f1 g1)(hc2:Bi w a2 n2 f2 g2)(hc3:Ce w a3 n3 h):
 Calls prog 52 #[.agg #[.int .i64 id,.int .i64 b1,.slice a1 n1 k1,.int .i64 b2,.slice a2 n2 k2,.slice a3 n3 k3,.int .i64 made]] w fun e w'=>e= .returned (.bool (Fa id made b1 n1 f1 g1 b2 n2 f2 g2 n3 h))/\Below w w w':=by
 have hb0:=CY w (.cells #[.int .i64 id,.int .i64 b1,.slice a1 n1 k1,.int .i64 b2,.slice a2 n2 k2,.slice a3 n3 k3,.int .i64 made] 47);have C1:=hc1.below hb0;have C2:=hc2.below hb0;have C3:=hc3.below hb0;clear hc1 hc2 hc3;by_cases t0:Ed id 1 9=true
 ·obtain⟨s1,s2⟩:=Cv.1 t0;go_enter func52,ntmps52
  go_wp2_with fail
  refine(HY _ _ _ _ f1 g1 _ hn1 C1).mono ?_;rintro e w1 ⟨rfl,hb1⟩;obtain⟨q1,_⟩:=Oc hb1;have z1:w.heap.size<w1.heap.size:=by have:=hb1.size;simp at this;omega
  have B1:Below w w w1:=hb0.trans (hb1.mono (by simp));by_cases t1:AO b1 n1 f1 g1=true
  ·go_wp2_with fail
   refine(HY _ _ _ _ f2 g2 _ hn2 (C2.below hb1)).mono ?_;rintro e w2 ⟨rfl,hb2⟩;obtain⟨q2,_⟩:=Oc hb2;have z2:w.heap.size<w2.heap.size:=(by have:=hb2.size;omega);have B2:Below w w w2:=B1.trans (hb2.mono (by omega));by_cases t2:AO b2 n2 f2 g2=true
   ·go_wp2_with fail
    refine(PX _ _ _ h _ hn3 ((C3.below hb1).below hb2)).mono ?_;rintro e w3 ⟨rfl,rfl⟩;have B3:=B2;by_cases t3:Cg n3 h=true
    ·go_wp2;all_goals
      go_ret;refine⟨Ag ?_,B3⟩;rw[Xx t0 t1 t2 t3];first|exact(NA (by assumption)).symm|exact(Sv (by assumption)).symm
    ·have t3':Cg n3 h=false:=(by simpa using t3);clear t3;go_wp2;go_ret;exact⟨Ag (by simp[Fa,t3']),B3⟩
   ·have t2':AO b2 n2 f2 g2=false:=(by simpa using t2);clear t2;go_wp2;go_ret;exact⟨Ag (by simp[Fa,t2']),B2⟩
  ·have t1':AO b1 n1 f1 g1=false:=(by simpa using t1);clear t1;go_wp2;go_ret;exact⟨Ag (by simp[Fa,t1']),B1⟩
 ·have t0':Ed id 1 9=false:=by simpa using t0
  clear t0;go_enter func52,ntmps52
  by_cases s1:1<=id
  ·have s2:¬id<=9:=fun s2=>by simp[Ed,s1,s2]at t0'
   go_wp2;go_ret;exact⟨Ag (by simp[Fa,t0']),hb0⟩
  ·go_wp2;go_ret;exact⟨Ag (by simp[Fa,t0']),hb0⟩

variable {W:World}{P:Nat}{o:Obj}
def Ai(W:World)(P:Nat)(o:Obj):Prop:=W.heap[P]? =some o
theorem Ai.new(W:World)(o:Obj):Ai (W.alloc o) W o:=blk_alloc_new _ _
theorem Ai.lt(h:Ai W P o):P<W.heap.size:=(Array.getElem?_eq_some_iff.1 h).1
theorem Ai.alloc(h:Ai W P o)(o':Obj):Ai (W.alloc o') P o:=(blk_alloc_lt _ _ _ h.lt).trans h
theorem Ai.below{W':World}(h:Ai W P o)(hb:Below W W W'):Ai W' P o:=(hb.block P h.lt).trans h
theorem Ai.two{t:Nat}{x y:Value}(h:Ai W P (.cells #[x,y] t)):W.cell? ⟨P,0,none⟩=some x/\W.cell? ⟨P,1,none⟩=some y:=by
 unfold Ai at h;simp[World.cell?,h]
variable {w w':World}
theorem hid{p:Prop}(h:p):Hid p:=h
theorem Ac{a b:World}(h:Below w w a)(k:Below a a b):Below w w b:=h.trans (k.mono h.size)
structure AH where
 a:Option Addr
 n:Nat
 k:Nat
 f:Nat->Int
 g:Nat->Int
structure AU where
 a:Option Addr
 n:Nat
 k:Nat
 h:Nat->Int
def AH.at(w:World)(c:AH):Prop:=c.n<=maxLen/\Bi w c.a c.n c.f c.g
def AU.at(w:World)(c:AU):Prop:=c.n<=maxLen/\Ce w c.a c.n c.h
def AH.val(c:AH):Value:= .slice c.a c.n c.k
def AU.val(c:AU):Value:= .slice c.a c.n c.k
instance:Coe AH Value:=⟨fun c=>.slice c.a c.n c.k⟩
instance:Coe AU Value:=⟨fun c=>.slice c.a c.n c.k⟩
structure Af where
 id:Int
 b1:Int
 c1:AH
 b2:Int
 c2:AH
 own:AU
 made:Int
instance:Coe Af (Array Value):=⟨fun t=>#[t.id,t.b1,.slice t.c1.a t.c1.n t.c1.k,t.b2,.slice t.c2.a t.c2.n t.c2.k,.slice t.own.a t.own.n t.own.k,t.made]⟩
def Af.val(t:Af):Value:= .agg #[t.id,t.b1,t.c1.val,t.b2,t.c2.val,t.own.val,t.made]
def Af.at(w:World)(t:Af):Prop:=t.c1.at w/\t.c2.at w/\t.own.at w
theorem AH.at.below{c:AH}(h:c.at w)(hb:Below w w w'):c.at w':=⟨h.1,h.2.below hb⟩
theorem AU.at.below{c:AU}(h:c.at w)(hb:Below w w w'):c.at w':=⟨h.1,h.2.below hb⟩
theorem Af.at.below{t:Af}(h:t.at w)(hb:Below w w w'):t.at w':=⟨h.1.below hb,h.2.1.below hb,h.2.2.below hb⟩
structure KZ(w:World)(b o:Nat)(t:Af):Prop where
 c0:w.cell? ⟨b,o,none⟩=some (.int .i64 t.id)
 c1:w.cell? ⟨b,o+1,none⟩=some (.int .i64 t.b1)
 c2:w.cell? ⟨b,o+2,none⟩=some t.c1.val
 c3:w.cell? ⟨b,o+3,none⟩=some (.int .i64 t.b2)
 c4:w.cell? ⟨b,o+4,none⟩=some t.c2.val
 c5:w.cell? ⟨b,o+5,none⟩=some t.own.val
 c6:w.cell? ⟨b,o+6,none⟩=some (.int .i64 t.made)
theorem KZ.below{b o:Nat}{t:Af}(h:KZ w b o t)(hl:b<w.heap.size)(hb:Below w w w'):KZ w' b o t:=
 ⟨(hb.cell (p:=⟨b,o,none⟩) hl).trans h.c0,(hb.cell (p:=⟨b,o+1,none⟩) hl).trans h.c1,(hb.cell (p:=⟨b,o+2,none⟩) hl).trans h.c2,(hb.cell (p:=⟨b,o+3,none⟩) hl).trans h.c3,(hb.cell (p:=⟨b,o+4,none⟩) hl).trans h.c4,(hb.cell (p:=⟨b,o+5,none⟩) hl).trans h.c5,(hb.cell (p:=⟨b,o+6,none⟩) hl).trans h.c6⟩
def JR(w:World)(a:Option Addr)(n:Nat)(T:Nat->Af):Prop:=
 0<n->∃b off,a=some ⟨b,off,none⟩/\b<w.heap.size/\∀i,i<n->KZ w b (off+i*7) (T i)/\(T i).at w
theorem JR.below{a:Option Addr}{n:Nat}{T:Nat->Af}(h:JR w a n T)(hb:Below w w w'):JR w' a n T:=fun hn=>by
 obtain⟨b,off,e,hlt,hc⟩:=h hn;exact⟨b,off,e,Nat.lt_of_lt_of_le hlt hb.size,fun i hi=>⟨(hc i hi).1.below hlt hb,(hc i hi).2.below hb⟩⟩
def Af.small(t:Af):Prop:=t.c1.n<=1048576/\t.c2.n<=1048576/\t.own.n<=1048576
variable {w w':World}{a:Option Addr}{n:Nat}
def JF(w:World)(a:Option Addr)(n:Nat)(f:Nat->ByteArray):Prop:=0<n->∃b off,a=some ⟨b,off,none⟩/\b<w.heap.size/\∀i,i<n->w.cell? ⟨b,off+i,none⟩=some (.string (f i))
theorem JF.below{f:Nat->ByteArray}(h:JF w a n f)(hb:Below w w w'):JF w' a n f:=fun hn=>by
 obtain⟨b,off,e,hlt,hc⟩:=h hn;exact⟨b,off,e,Nat.lt_of_lt_of_le hlt hb.size,fun i hi=>(hb.cell (p:=⟨b,off+i,none⟩) hlt).trans (hc i hi)⟩
structure AX where
 a:Option Addr
 n:Nat
 k:Nat
 f:Nat->ByteArray
def AX.at(w:World)(c:AX):Prop:=c.n<=maxLen/\JF w c.a c.n c.f/\∀i,i<c.n->(c.f i).size<=maxLen
def AX.val(c:AX):Value:= .slice c.a c.n c.k
theorem AX.at.below{c:AX}(h:c.at w)(hb:Below w w w'):c.at w':=⟨h.1,h.2.1.below hb,h.2.2⟩
def AX.small(c:AX):Prop:=c.n<=1048576/\∀i,i<c.n->(c.f i).size<=1048576
instance:Coe AX Value:=⟨fun c=>.slice c.a c.n c.k⟩
structure Ae where
 id:Int
 kind:Int
 up:Int
 b1:Int
 c1:AH
 data:ByteArray
 jA:AX
 own:AU
 b2:Int
 c2:AH
instance:Coe Ae (Array Value):=⟨fun t=>#[t.id,t.kind,t.up,t.b1,.slice t.c1.a t.c1.n t.c1.k,.string t.data,.slice t.jA.a t.jA.n t.jA.k,.slice t.own.a t.own.n t.own.k,t.b2,.slice t.c2.a t.c2.n t.c2.k]⟩
def Ae.val(t:Ae):Value:= .agg #[t.id,t.kind,t.up,t.b1,t.c1.val,.string t.data,t.jA.val,t.own.val,t.b2,t.c2.val]
def Ae.at(w:World)(t:Ae):Prop:=t.c1.at w/\t.jA.at w/\t.own.at w/\t.c2.at w/\t.data.size<=maxLen
theorem Ae.at.below{t:Ae}(h:t.at w)(hb:Below w w w'):t.at w':=⟨h.1.below hb,h.2.1.below hb,h.2.2.1.below hb,h.2.2.2.1.below hb,h.2.2.2.2⟩
def Ae.small(t:Ae):Prop:=t.c1.n<=1048576/\t.data.size<=1048576/\t.jA.small/\t.own.n<=1048576/\t.c2.n<=1048576
structure Eg(w:World)(b o:Nat)(t:Ae):Prop where
 c0:w.cell? ⟨b,o,none⟩=some (.int .i64 t.id)
 c1:w.cell? ⟨b,o+1,none⟩=some (.int .i64 t.kind)
 c2:w.cell? ⟨b,o+2,none⟩=some (.int .i64 t.up)
 c3:w.cell? ⟨b,o+3,none⟩=some (.int .i64 t.b1)
 c4:w.cell? ⟨b,o+4,none⟩=some t.c1.val
 c5:w.cell? ⟨b,o+5,none⟩=some (.string t.data)
 c6:w.cell? ⟨b,o+6,none⟩=some t.jA.val
 c7:w.cell? ⟨b,o+7,none⟩=some t.own.val
 c8:w.cell? ⟨b,o+8,none⟩=some (.int .i64 t.b2)
 c9:w.cell? ⟨b,o+9,none⟩=some t.c2.val
theorem Eg.below{b o:Nat}{t:Ae}(h:Eg w b o t)(hl:b<w.heap.size)(hb:Below w w w'):Eg w' b o t:=
 ⟨(hb.cell (p:=⟨b,o,none⟩) hl).trans h.c0,(hb.cell (p:=⟨b,o+1,none⟩) hl).trans h.c1,(hb.cell (p:=⟨b,o+2,none⟩) hl).trans h.c2,(hb.cell (p:=⟨b,o+3,none⟩) hl).trans h.c3,(hb.cell (p:=⟨b,o+4,none⟩) hl).trans h.c4,(hb.cell (p:=⟨b,o+5,none⟩) hl).trans h.c5,(hb.cell (p:=⟨b,o+6,none⟩) hl).trans h.c6,(hb.cell (p:=⟨b,o+7,none⟩) hl).trans h.c7,(hb.cell (p:=⟨b,o+8,none⟩) hl).trans h.c8,(hb.cell (p:=⟨b,o+9,none⟩) hl).trans h.c9⟩
def IF(w:World)(a:Option Addr)(n:Nat)(T:Nat->Ae):Prop:=
 0<n->∃b off,a=some ⟨b,off,none⟩/\b<w.heap.size/\∀i,i<n->Eg w b (off+i*10) (T i)/\(T i).at w
theorem IF.below{T:Nat->Ae}(h:IF w a n T)(hb:Below w w w'):IF w' a n T:=fun hn=>by
 obtain⟨b,off,e,hlt,hc⟩:=h hn;exact⟨b,off,e,Nat.lt_of_lt_of_le hlt hb.size,fun i hi=>⟨(hc i hi).1.below hlt hb,(hc i hi).2.below hb⟩⟩
theorem Ai.jE{W:World}{P t:Nat}{x0 x1 x2 x3 x4 x5 x6 x7 x8 x9:Value}(h:Ai W P (.cells #[x0,x1,x2,x3,x4,x5,x6,x7,x8,x9] t)):W.cell? ⟨P,0,none⟩=some x0/\W.cell? ⟨P,1,none⟩=some x1/\W.cell? ⟨P,2,none⟩=some x2/\W.cell? ⟨P,3,none⟩=some x3/\W.cell? ⟨P,4,none⟩=some x4/\W.cell? ⟨P,5,none⟩=some x5/\W.cell? ⟨P,6,none⟩=some x6/\W.cell? ⟨P,7,none⟩=some x7/\W.cell? ⟨P,8,none⟩=some x8/\W.cell? ⟨P,9,none⟩=some x9:=by
 unfold Ai at h;simp[World.cell?,h]
def Ae.cells(t:Ae):Array Value:=#[t.id,t.kind,t.up,t.b1,t.c1.val,.string t.data,t.jA.val,t.own.val,t.b2,t.c2.val]
structure AJ where
 ta:Option Addr
 tn:Nat
 tk:Nat
 T:Nat->Af
 oa:Option Addr
 on:Nat
 ok:Nat
 O:Nat->Ae
def AJ.val(k:AJ):Value:= .agg #[.slice k.ta k.tn k.tk,.slice k.oa k.on k.ok]
def AJ.at(w:World)(k:AJ):Prop:=k.tn<=maxLen/\k.on<=maxLen/\JR w k.ta k.tn k.T/\IF w k.oa k.on k.O
theorem AJ.at.below{k:AJ}(h:k.at w)(hb:Below w w w'):k.at w':=⟨h.1,h.2.1,h.2.2.1.below hb,h.2.2.2.below hb⟩
def AJ.small(k:AJ):Prop:=(k.tn<=1048576/\∀i,i<k.tn->(k.T i).small)/\(k.on<=1048576/\∀i,i<k.on->(k.O i).small)
variable {s:ByteArray}{most:Int}{b:UInt8}
def Fw(b:UInt8):Bool:=decide (32<=b.toNat)&&decide (b.toNat<=126)
def Bp(s:ByteArray)(most:Int):Bool:=s.data.toList.all Fw&&decide ((s.size:Int)<=most)
theorem Lw{k:Nat}(h:k<s.size)(hb:Fw s[k]=false):Bp s most=false:=by
 have:s.data.toList.all Fw=false:=by
  rw[List.all_eq_false];exact⟨s[k],Array.getElem_mem_toList h,by simp[hb]⟩
 simp[Bp,this]
theorem Rj(h:∀(k:Nat) (hk:k<s.size),Fw s[k]=true):Bp s most=decide ((s.size:Int)<=most):=by
 have:s.data.toList.all Fw=true:=by
  rw[List.all_eq_true];intro b hb;obtain⟨k,hk,rfl⟩:=List.getElem_of_mem hb;have hk':k<s.size:=by simpa using hk
  have:=h k hk';have e:s[k]=s.data.toList[k]:=rfl;rw[e]at this;exact this
 simp[Bp,this]
theorem Ks(h:(b.toNat:Int)<32):Fw b=false:=by
 have:¬32<=b.toNat:=by omega
 simp[Fw,this]
theorem QZ(h:126<(b.toNat:Int)):Fw b=false:=by
 have:¬b.toNat<=126:=by omega
 simp[Fw,this]
theorem Ov(h1:32<=(b.toNat:Int))(h2:(b.toNat:Int)<=126):Fw b=true:=by
 have e1:32<=b.toNat:=by omega
 have e2:b.toNat<=126:=by omega
 simp[Fw,e1,e2]
theorem JU(s:ByteArray)(most:Int)(w:World)(hn:s.size<=maxLen):
 Calls prog 79 #[.string s,.int .i64 most] w fun e w'=>e= .returned (.bool (Bp s most))/\w'=w:=by
 unfold maxLen at hn;go_enter func79,ntmps79
 go_wp2;go_loop [5] (fun i=>∃k:Nat,k<=s.size/\i= .int .i64 k/\(∀(j:Nat) (hj:j<s.size),j<k->Fw s[j]=true)) (fun i=>s.size-(intOf i).toNat)
 case atStart=>exact⟨0,Nat.zero_le _,rfl,fun j _ hj=>by omega⟩
 case round=>
  obtain⟨k,hk,rfl,hall⟩:=hrel;have HA:Hid (∀(j:Nat) (hj:j<s.size),j<k->Fw s[j]=true):=hall;clear hall;by_cases hlt:k<s.size
  ·have hki:(k:Int)<(s.size:Int):=(by omega);go_wp2
   ·go_ret;rename_i h1 h2 _;refine⟨Ag (Lw hlt ?_).symm,rfl⟩;rcases h2 with h2|h2
    ·exact Ks h2
    ·exact QZ h2
   ·rename_i h1 h2;go_round;case rel=>
     refine⟨k+1,by omega,by go_num,fun j hj hjk=>?_⟩;by_cases e:j=k
     ·subst e;exact Ov h2.1 h2.2
     ·exact HA.out j hj (by omega)
    case measure=>simp[intOf];omega
   ·go_ret;rename_i h1;exact⟨Ag (Lw hlt (Ks h1)).symm,rfl⟩
  ·have hki:¬(k:Int)<(s.size:Int):=(by omega);go_wp2;go_ret;exact⟨Ag (Rj (fun j hj=>HA j hj (by omega))).symm,rfl⟩
theorem bytesWorld_below(w:World)(e:TypeId)(s:ByteArray):Below w w (Lib.bytesWorld w e s):=
 ⟨rfl,rfl,rfl,by rw[Lib.bytesWorld_size];omega,fun k hk=>Lib.bytesWorld_at_old w e s k hk⟩
theorem NF(s:ByteArray)(w:World)(hn:s.size<=maxLen):
 Calls prog 81 #[.string s] w fun e w'=>e= .returned (.bool (Bp s 40))/\Below w w w':=by
 unfold maxLen at hn;by_cases h40:40<s.size
 ·have h40':(40:Int)<(s.size:Int):=by omega
  go_enter func81,ntmps81
  go_wp2;go_ret;have:¬(s.size:Int)<=40:=by omega
  exact⟨Ag (by simp[Bp,this]),Below.refl _ _⟩
 ·have h40':(s.size:Int)<=40:=by omega
  have kc:=fun(w:World) (s:ByteArray)=>Lib.run_convert_string_bytes (P:=prog) w 9 22 5 s underlying9 underlying22 underlying5;go_enter func81,ntmps81
  go_wp2_with fail
  have hB:=bytesWorld_below w 5 s;have hcell:∀(j:Nat) (hj:j<s.size),(Lib.bytesWorld w 5 s).cell? ⟨w,j,none⟩=some (.int .u8 (s[j].toNat:Int)):=fun j hj=>by
   rw[Lib.bytesWorld_cell w 5 s j hj];have e:s.data.toList.getD j 0=s[j]:=by
    have hj':j<s.data.toList.length:=(by simpa using hj);rw[List.getD_eq_getElem?_getD,List.getElem?_eq_getElem hj'];rfl
   rw[e]
  generalize Lib.bytesWorld w 5 s=W at *;generalize grownCap w s.size 0 5=cp at *;go_loop [11] (fun i=>∃k:Nat,k<=s.size/\i= .int .i64 k/\(∀(j:Nat) (hj:j<s.size),j<k->Fw s[j]=true)) (fun i=>s.size-(intOf i).toNat)
  case atStart=>exact⟨0,Nat.zero_le _,rfl,fun j _ hj=>by omega⟩
  case round=>
   obtain⟨k,hk,rfl,hall⟩:=hrel;have HA:Hid (∀(j:Nat) (hj:j<s.size),j<k->Fw s[j]=true):=hall;clear hall;by_cases hlt:k<s.size
   ·have hki:(k:Int)<(s.size:Int):=(by omega);have hc:=hcell k hlt;clear hcell;go_wp2
    ·go_ret;rename_i h1 h2 _;refine⟨Ag (Lw hlt ?_).symm,hB⟩;rcases h2 with h2|h2
     ·exact Ks h2
     ·exact QZ h2
    ·rename_i h1 h2;go_round;case rel=>
      refine⟨k+1,by omega,by go_num,fun j hj hjk=>?_⟩;by_cases e:j=k
      ·subst e;exact Ov h2.1 h2.2
      ·exact HA.out j hj (by omega)
     case measure=>simp[intOf];omega
    ·go_ret;rename_i h1;exact⟨Ag (Lw hlt (Ks h1)).symm,hB⟩
   ·have hki:¬(k:Int)<(s.size:Int):=(by omega);clear hcell;go_wp2;go_ret;exact⟨Ag (by rw[Rj (fun j hj=>HA.out j hj (by omega))];simpa using h40'),hB⟩
def Fh(base:Int)(n:Nat):Bool:=(base==0)&&(n==0)
def dm(kind:Int):Bool:=kind==2||kind==3||kind==4||kind==5||kind==6||kind==7||kind==8||kind==9||kind==10||kind==11||kind==13||kind==15
def dH(kind:Int):Bool:=kind==8
def Yn(kind:Int):Bool:=kind==5||kind==14
def Zz(kind:Int):Bool:=kind==6||kind==9
def Wr(kind:Int):Bool:=kind==2||kind==3||kind==4||kind==5||kind==12
def We(kind:Int):Bool:=kind==5
def dj(kind:Int):Bool:=kind==1||kind==2||kind==3||kind==4||kind==5||kind==6||kind==7||kind==8||kind==9||kind==10||kind==11||kind==12||kind==13||kind==14||kind==15
def aM(n:Int)(used:Bool):Bool:=if used then Ed n 1 9030 else n==0
def ZK(kind cat:Int)(used:Bool):Bool:=if cat==0 then kind != 14 else used&&Ed cat 1 9999
theorem VU(base:Int)(a:Option Addr)(n cap:Nat)(w:World)(hn:n<=maxLen):
 Calls prog 83 #[.agg #[.int .i64 base,.slice a n cap]] w fun e w'=>e= .returned (.bool (Fh base n))/\Below w w w':=by
 unfold maxLen at hn;have hb0:=CY w (.cells #[.int .i64 base,.slice a n cap] 44);cases t:(base==0)with
 |true=>
  go_enter func83,ntmps83
  go_wp2;go_ret;refine⟨Ag ?_,hb0⟩;unfold Fh;rw[t,Bool.true_and];by_cases e:n=0
  ·subst e;rfl
  ·have e1:(n==0)=false:=(by simpa using e);rw[e1];simp;omega
 |false=>
  go_enter func83,ntmps83
  go_wp2;go_ret;exact⟨Ag (by simp[Fh,t]),hb0⟩
variable {n:Nat}
def De(n:Nat)(f:Nat->ByteArray):Bool:=decide (n<=8)&&(List.range n).all (fun i=>Bp (f i) 40)
theorem OH{f:Nat->ByteArray}(e:8<n):De n f=false:=by
 have:decide (n<=8)=false:=by simp;omega
 simp[De,this]
theorem QR{k:Nat}{f:Nat->ByteArray}(hk:k<n)(e:Bp (f k) 40=false):De n f=false:=by
 have:(List.range n).all (fun i=>Bp (f i) 40)=false:=by
  rw[List.all_eq_false];exact⟨k,List.mem_range.2 hk,by simp[e]⟩
 simp[De,this]
theorem PQ{f:Nat->ByteArray}(e:∀i,i<n->Bp (f i) 40=true):De n f=decide (n<=8):=by
 have:(List.range n).all (fun i=>Bp (f i) 40)=true:=by
  rw[List.all_eq_true];intro i hi;exact e i (List.mem_range.1 hi)
 simp[De,this]
theorem OJ{f:Nat->ByteArray}(e:De n f=true):n<=8/\∀i,i<n->Bp (f i) 40=true:=by
 simp only[De,Bool.and_eq_true,decide_eq_true_eq,List.all_eq_true,List.mem_range]at e;exact e
theorem TU(a:Option Addr)(n cap:Nat)(f:Nat->ByteArray)(w:World)(hn:n<=maxLen)(hc:JF w a n f)(hz:∀i,i<n->(f i).size<=maxLen):
 Calls prog 82 #[.slice a n cap] w fun e w'=>e= .returned (.bool (De n f))/\Below w w w':=by
 unfold maxLen at hn;have HC:=hid hc;have HZ:=hid hz;clear hc hz;by_cases h8:8<n
 ·have h8':(8:Int)<(n:Int):=by omega
  go_enter func82,ntmps82
  go_wp2;go_ret;exact⟨Ag (OH h8).symm,Below.refl _ _⟩
 ·have h8':¬(8:Int)<(n:Int):=by omega
  go_enter func82,ntmps82
  go_wp2;go_loopw [10] (fun i wr=>∃k:Nat,k<=n/\i= .int .i64 k/\Hid (∀j,j<k->Bp (f j) 40=true)/\Below w w wr) (fun i _=>n-(intOf i).toNat)
  case atStart=>exact⟨0,Nat.zero_le _,rfl,hid (fun j hj=>by omega),Below.refl _ _⟩
  case round=>
   obtain⟨k,hk,rfl,HA,hB⟩:=hrel;by_cases hlt:k<n
   ·obtain⟨b,off,rfl,hlt0,hcc⟩:=HC.out.below hB (by omega);have g1:=hcc k hlt;have z:=HZ.out k hlt;have i1:(k:Int)<(n:Int):=(by omega);clear hcc;go_wp2_with fail
    refine(NF _ _ z).mono ?_;rintro e w1 ⟨rfl,hb1⟩;have B1:=Ac hB hb1;clear g1;by_cases t:Bp (f k) 40=true
    ·have HA2:Hid (∀j,j<k+1->Bp (f j) 40=true):=hid (fun j hj=>by
      by_cases e:j=k
      ·subst e;exact t
      ·exact HA.out j (by omega))
     go_wp2;exact⟨⟨k+1,by omega,by go_num,HA2,B1⟩,by simp[intOf];omega⟩
    ·have t':Bp (f k) 40=false:=(by simpa using t);clear t;go_wp2;go_ret;exact⟨Ag (QR hlt t').symm,B1⟩
   ·go_wp2;go_ret;have e:k=n:=(by omega);subst e;exact⟨Ag (by rw[PQ HA.out];simp;omega),hB⟩
def Gk(t:Ae):Bool:=
 if t.kind=1 then t.jA.n==0&&(t.own.n==0&&Fh t.b2 t.c2.n)
 else if t.kind=2 then t.data.toList.isEmpty&&(t.own.n==0&&Fh t.b2 t.c2.n)
 else if t.kind=3 then t.data.toList.isEmpty&&t.jA.n==0&&(t.own.n==0&&Fh t.b2 t.c2.n)
 else if t.kind=4 then t.data.toList.isEmpty&&t.jA.n==0
 else false
def Bz(t:Ae):Bool:=AO t.b1 t.c1.n t.c1.f t.c1.g&&AO t.b2 t.c2.n t.c2.f t.c2.g&&Cg t.own.n t.own.h&&Bp t.data 40&&De t.jA.n t.jA.f&&Gk t
theorem bW(n:Nat):((n:Int)==0)=(n==0):=by
 by_cases e:n=0
 ·subst e;rfl
 ·have e1:(n==0)=false:=by simpa using e
  rw[e1];simp;omega
theorem WG(b:Int)(c:AH)(w:World)(hc:c.at w):
 Calls prog 68 #[.agg #[.int .i64 b,c.val]] w fun e w'=>e= .returned (.bool (AO b c.n c.f c.g))/\Below w w w':=HY b c.a c.n c.k c.f c.g w hc.1 hc.2
theorem aA(c:AU)(w:World)(hc:c.at w):
 Calls prog 80 #[c.val] w fun e w'=>e= .returned (.bool (Cg c.n c.h))/\w'=w:=PX c.a c.n c.k c.h w hc.1 hc.2
theorem ah(c:AX)(w:World)(hc:c.at w):
 Calls prog 82 #[c.val] w fun e w'=>e= .returned (.bool (De c.n c.f))/\Below w w w':=TU c.a c.n c.k c.f w hc.1 hc.2.1 hc.2.2
theorem bX(b:Int)(c:AH)(w:World)(hc:c.at w):
 Calls prog 83 #[.agg #[.int .i64 b,c.val]] w fun e w'=>e= .returned (.bool (Fh b c.n))/\Below w w w':=VU b c.a c.n c.k w hc.1
theorem Sa(t:Ae)(w:World)(ht:t.at w):
 Calls prog 53 #[t.val] w fun e w'=>e= .returned (.bool (Bz t))/\Below w w w':=by
 have n1:No (.cells #[t.id,t.kind,t.up,t.b1,t.c1.val,.string t.data,t.jA.val,t.own.val,t.b2,t.c2.val] 51):=⟨⟩;have hb0:=(Below.refl _ w).alloc nr n1;have A0:=Ai.new w n1;have T0:=hid (ht.below hb0);unfold Ae.val;obtain⟨x0,x1,x2,x3,x4,x5,x6,x7,x8,x9⟩:=A0.jE;clear ht;go_enter func53,ntmps53
 go_wp2_with fail
 refine(WG _ t.c1 _ T0.out.1).mono ?_;rintro e w1 ⟨rfl,hb1⟩;have A1:=A0.below hb1;have T1:=hid (T0.out.below hb1);have B1:=Ac hb0 hb1;clear x0 x1 x2 x3 x4 x5 x6 x7 x8 x9 A0 T0 hb0 hb1;obtain⟨x0,x1,x2,x3,x4,x5,x6,x7,x8,x9⟩:=A1.jE;cases t1:AO t.b1 t.c1.n t.c1.f t.c1.g with
 |false=>
  go_wp2;go_ret;exact⟨Ag (by simp[Bz,t1]),B1⟩
 |true=>
 go_wp2_with fail
 refine(WG _ t.c2 _ T1.out.2.2.2.1).mono ?_;rintro e w2 ⟨rfl,hb2⟩;have A2:=A1.below hb2;have T2:=hid (T1.out.below hb2);have B2:=Ac B1 hb2;clear x0 x1 x2 x3 x4 x5 x6 x7 x8 x9 A1 T1 B1 hb2;obtain⟨x0,x1,x2,x3,x4,x5,x6,x7,x8,x9⟩:=A2.jE;cases t2:AO t.b2 t.c2.n t.c2.f t.c2.g with
 |false=>
  go_wp2;go_ret;exact⟨Ag (by simp[Bz,t2]),B2⟩
 |true=>
 go_wp2_with fail
 refine(aA t.own _ T2.out.2.2.1).mono ?_;rintro e w3 ⟨rfl,rfl⟩;cases t3:Cg t.own.n t.own.h with
 |false=>
  go_wp2;go_ret;exact⟨Ag (by simp[Bz,t3]),B2⟩
 |true=>
 go_wp2_with fail
 refine(NF t.data _ T2.out.2.2.2.2).mono ?_;rintro e w4 ⟨rfl,hb4⟩;have A4:=A2.below hb4;have T4:=hid (T2.out.below hb4);have B4:=Ac B2 hb4;clear x0 x1 x2 x3 x4 x5 x6 x7 x8 x9 A2 T2 B2 hb4;obtain⟨x0,x1,x2,x3,x4,x5,x6,x7,x8,x9⟩:=A4.jE;cases t4:Bp t.data 40 with
 |false=>
  go_wp2;go_ret;exact⟨Ag (by simp[Bz,t4]),B4⟩
 |true=>
 go_wp2_with fail
 refine(ah t.jA _ T4.out.2.1).mono ?_;rintro e w5 ⟨rfl,hb5⟩;have A5:=A4.below hb5;have T5:=hid (T4.out.below hb5);have B5:=Ac B4 hb5;clear x0 x1 x2 x3 x4 x5 x6 x7 x8 x9 A4 T4 B4 hb5;obtain⟨x0,x1,x2,x3,x4,x5,x6,x7,x8,x9⟩:=A5.jE;cases t5:De t.jA.n t.jA.f with
 |false=>
  go_wp2;go_ret;exact⟨Ag (by simp[Bz,t5]),B5⟩
 |true=>
 have OK:Hid (Bz t=Gk t):=hid (by simp[Bz,t1,t2,t3,t4,t5]);clear t1 t2 t3 t4 t5;unfold AX.val at x6;go_wp2_with fail
 have hn5:=T5.out.2.1.1;unfold maxLen at hn5;go_quiet(fail)
 unfold AU.val at x7;have hn6:=T5.out.2.2.1.1;unfold maxLen at hn6;have Z:=hid (bX t.b2 t.c2 _ (T5.out.below (below_drewN (Below.refl _ w5) nq)).2.2.2.1);have B6:=below_drewN B5 nq;go_wp2_with(go_at_call 83;refine Z.out.mono ?_;rintro e w6 ⟨rfl,hb6⟩;have x1':=(hb6.cell (p:=⟨w,1,none⟩) A5.lt).trans x1;have B7:=Ac B6 hb6)
 all_goals
  go_ret;refine⟨Ag ?_,by assumption⟩;rw[OK.out];first
  |(simp_all[Gk];done)
  |(simp_all[Gk];exact bW _)
def Bv(ids:Nat->Int)(n:Nat)(x:Int):Option Nat:=(List.range n).find? (fun j=>ids j==x)
def Ky(ids ups:Nat->Int)(n i:Nat):Option Nat:=if i=0 then none else Bv ids n (ups i)
def Bn(ids ups:Nat->Int)(n:Nat):Nat->Nat->Option Nat
 |0,i=>some i
 |m+1,i=>(Ky ids ups n i).bind (Bn ids ups n m)
def Dv(ids ups:Nat->Int)(n i:Nat):List Nat:=(List.range n).filter (fun j=>ups j==ids i)
def Gd(ids ups:Nat->Int)(n:Nat):Nat->Nat->List Nat
 |0,_=>[]
 |f+1,i=>i::(Dv ids ups n i).flatMap (Gd ids ups n f)
def Dt(ids:Nat->Int)(n:Nat):Prop:=∀i j,i<j->j<n->ids i<ids j
theorem AZ{ids:Nat->Int}{n:Nat}{x:Int}{j:Nat}(h:Bv ids n x=some j):j<n/\ids j=x:=by
 unfold Bv at h;exact⟨List.mem_range.1 (List.mem_of_find?_eq_some h),by simpa using List.find?_some h⟩
theorem Jz{ids:Nat->Int}{n:Nat}{x:Int}(h:Bv ids n x=none):∀j,j<n->ids j≠x:=by
 unfold Bv at h;rw[List.find?_eq_none]at h;intro j hj e;have:=h j (List.mem_range.2 hj);simp[e]at this
theorem Dt.inj{ids:Nat->Int}{n:Nat}(h:Dt ids n){i j:Nat}(hi:i<n)(hj:j<n)(e:ids i=ids j):i=j:=by
 rcases Nat.lt_trichotomy i j with h1|h1|h1
 ·have:=h i j h1 hj;omega
 ·exact h1
 ·have:=h j i h1 hi;omega
theorem Dx{ids:Nat->Int}{n:Nat}(h:Dt ids n){j:Nat}(hj:j<n):Bv ids n (ids j)=some j:=by
 cases e:Bv ids n (ids j)with
 |none=>exact absurd rfl (Jz e j hj)
 |some k=>
  obtain⟨h1,h2⟩:=AZ e;rw[h.inj h1 hj h2]
section
variable {ids ups:Nat->Int}{n:Nat}
theorem Ew(a b i:Nat):Bn ids ups n (a+b) i=(Bn ids ups n a i).bind (Bn ids ups n b):=by
 induction a generalizing i with
 |zero=>simp[Bn]
 |succ a ih=>
  rw[Nat.succ_add];simp only[Bn];cases Ky ids ups n i with
  |none=>rfl
  |some k=>simp only[Option.bind_some];exact ih k
theorem Rm(i:Nat):Bn ids ups n 1 i=Ky ids ups n i:=by
 simp only[Bn];cases Ky ids ups n i<;>rfl
theorem DI(m i:Nat):Bn ids ups n (m+1) i=(Bn ids ups n m i).bind (Ky ids ups n):=by
 rw[Ew];congr 1;funext j;exact Rm j
theorem Pz{i j:Nat}(h:Ky ids ups n i=some j):j<n:=by
 unfold Ky at h;split at h
 ·cases h
 ·exact(AZ h).1
theorem Tt{m i j:Nat}(hi:i<n)(h:Bn ids ups n m i=some j):j<n:=by
 cases m with
 |zero=>simp only[Bn,Option.some.injEq]at h;omega
 |succ m=>
  rw[DI]at h;cases e:Bn ids ups n m i with
  |none=>simp[e]at h
  |some k=>simp only[e,Option.bind_some]at h;exact Pz h
def Iq(ids ups:Nat->Int)(n i:Nat):Prop:=∀p,Bn ids ups n (p+1) i≠some i
theorem Gt:Iq ids ups n 0:=fun p h=>by simp[Bn,Ky]at h
theorem XJ{i k:Nat}(h:Iq ids ups n i)(hk:Ky ids ups n k=some i):Iq ids ups n k:=fun p e=>by
 have e1:Bn ids ups n p i=some k:=by
  have:=e;simp only[Bn,hk,Option.bind_some]at this;exact this
 exact h p (by rw[DI,e1];exact hk)
theorem Pr{i k m:Nat}(h:Iq ids ups n i)(hk:Bn ids ups n m k=some i):Iq ids ups n k:=fun p e=>by
 have e2:Bn ids ups n (p+1+m) k=some i:=by rw[Ew,e];exact hk
 rw[Nat.add_comm,Ew,hk]at e2;exact h p e2
theorem Jx(n:Nat)(l:List Nat)(h:∀x∈l,x<n):l.length=((List.range n).map (fun j=>l.count j)).sum:=by
 induction l with
 |nil=>
  have:∀L:List Nat,(L.map (fun j=>([]:List Nat).count j)).sum=0:=by
   intro L;induction L with
   |nil=>rfl
   |cons a L ih=>rw[List.map_cons,List.sum_cons,ih];rfl
  rw[this];rfl
 |cons a l ih=>
  have h1:=ih (fun x hx=>h x (List.mem_cons_of_mem _ hx));have ha:a<n:=h a List.mem_cons_self;have key:∀N,(((List.range N).map (fun j=>(a::l).count j)).sum)=((List.range N).map (fun j=>l.count j)).sum+(if a<N then 1 else 0):=by
   intro N;induction N with
   |zero=>simp
   |succ N ihN=>
    rw[List.range_succ,List.map_append,List.sum_append,List.map_append,List.sum_append,ihN];simp only[List.map_cons,List.map_nil,List.sum_cons,List.sum_nil,List.count_cons];by_cases e:a=N
    ·subst e;simp;omega
    ·have e1:(a==N)=false:=(by simpa using e);simp only[e1];by_cases e2:a<N
     ·have:a<N+1:=(by omega);simp[e2,this];omega
     ·have:¬a<N+1:=(by omega);simp[e2,this]
  rw[key,if_pos ha,List.length_cons,h1]
theorem OQ(n:Nat)(c:Nat->Nat)(h:∀j,c j<=1):((List.range n).map c).sum<=n:=by
 induction n with
 |zero=>simp
 |succ n ih=>rw[List.range_succ,List.map_append,List.sum_append];have:=h n;simp;omega
theorem Yy(n:Nat)(c:Nat->Nat)(h:∀j,c j<=1)(e:((List.range n).map c).sum=n):∀j,j<n->c j=1:=by
 induction n with
 |zero=>intro j hj;omega
 |succ n ih=>
  rw[List.range_succ,List.map_append,List.sum_append]at e;simp at e;have h1:=OQ n c h;have h2:=h n;intro j hj;by_cases e1:j=n
  ·subst e1;omega
  ·exact ih (by omega) j (by omega)
theorem aQ(n:Nat)(c:Nat->Nat)(h:∀j,j<n->c j=1):((List.range n).map c).sum=n:=by
 induction n with
 |zero=>simp
 |succ n ih=>rw[List.range_succ,List.map_append,List.sum_append,ih (fun j hj=>h j (by omega))];simp[h n (by omega)]
theorem Hj{l:List Nat}(hl:l.Nodup)(h:∀x∈l,x<n):l.length<=n:=by
 rw[Jx n l h];exact OQ n _ (fun j=>List.nodup_iff_count.1 hl j)
theorem VH{l:List Nat}(hl:l.Nodup)(h:∀x∈l,x<n):l.length=n↔∀j,j<n->j∈l:=by
 constructor
 ·intro e j hj;rw[Jx n l h]at e;have:=Yy n _ (fun j=>List.nodup_iff_count.1 hl j) e j hj;exact List.count_pos_iff.1 (by omega)
 ·intro e;rw[Jx n l h];refine aQ n _ (fun j hj=>?_);have h1:=List.nodup_iff_count.1 hl j;have h2:=List.count_pos_iff.2 (e j hj);omega
theorem Pm{i j m:Nat}(hc:Iq ids ups n i)(hj:j<n)(h:Bn ids ups n m j=some i):m<n:=by
 have each:∀q,q<=m->∃x,Bn ids ups n q j=some x:=fun q hq=>by
  have e:m=q+(m-q):=by omega
  rw[e,Ew]at h;cases e1:Bn ids ups n q j with
  |none=>simp[e1]at h
  |some x=>exact⟨x,rfl⟩
 have hl:((List.range (m+1)).map (fun q=>(Bn ids ups n q j).getD 0)).Nodup:=by
  rw[List.Nodup,List.pairwise_map];refine List.Pairwise.imp_of_mem ?_ (List.pairwise_lt_range (n:=m+1));intro a b ha hb hab e;have ha':=List.mem_range.1 ha;have hb':=List.mem_range.1 hb;obtain⟨x,hx⟩:=each a (by omega);obtain⟨y,hy⟩:=each b (by omega);simp only[hx,hy,Option.getD_some]at e;subst e;have e1:b=a+(b-a-1+1):=by omega
  rw[e1,Ew,hx,Option.bind_some]at hy;have e2:m=a+(m-a):=by omega
  rw[e2,Ew,hx,Option.bind_some]at h;exact Pr hc h _ hy
 have:=Hj (n:=n) hl (by
  intro x hx;obtain⟨q,hq,rfl⟩:=List.mem_map.1 hx;have hq':=List.mem_range.1 hq;obtain⟨y,hy⟩:=each q (by omega);rw[hy];exact Tt hj hy)
 simp at this;omega
theorem Ge(hr:Dt ids n)(h0:∀j,j<n->ids j≠ups 0){i k:Nat}(hi:i<n):k∈Dv ids ups n i↔k<n/\Ky ids ups n k=some i:=by
 unfold Dv;rw[List.mem_filter,List.mem_range];constructor
 ·rintro⟨h1,h2⟩;refine⟨h1,?_⟩;have h2':ups k=ids i:=by simpa using h2
  unfold Ky;split
  ·rename_i e;subst e;exact absurd h2'.symm (h0 i hi)
  ·rw[h2'];exact Dx hr hi
 ·rintro⟨h1,h2⟩;refine⟨h1,?_⟩;unfold Ky at h2;split at h2
  ·cases h2
  ·simp[(AZ h2).2]
theorem Ef(hr:Dt ids n)(h0:∀j,j<n->ids j≠ups 0){f i j:Nat}(hi:i<n):j∈Gd ids ups n f i↔j<n/\∃m,m<f/\Bn ids ups n m j=some i:=by
 induction f generalizing i with
 |zero=>simp[Gd]
 |succ f ih=>
  simp only[Gd,List.mem_cons,List.mem_flatMap];constructor
  ·rintro(rfl|⟨k,hk,hj⟩)
   ·exact⟨hi,0,by omega,rfl⟩
   ·obtain⟨k1,k2⟩:=(Ge hr h0 hi).1 hk;obtain⟨hj',m,hm,e⟩:=(ih k1).1 hj;exact⟨hj',m+1,by omega,by rw[DI,e];exact k2⟩
  ·rintro⟨hj,m,hm,e⟩;cases m with
   |zero=>simp only[Bn,Option.some.injEq]at e;exact .inl e
   |succ m=>
    rw[DI]at e;cases e1:Bn ids ups n m j with
    |none=>simp[e1]at e
    |some k=>
     simp only[e1,Option.bind_some]at e;have hk:=Tt hj e1;exact .inr ⟨k,(Ge hr h0 hi).2 ⟨hk,e⟩,(ih hk).2 ⟨hj,m,by omega,e1⟩⟩
theorem IN(hr:Dt ids n)(h0:∀j,j<n->ids j≠ups 0){f i:Nat}(hi:i<n)(hc:Iq ids ups n i):(Gd ids ups n f i).Nodup:=by
 induction f generalizing i with
 |zero=>simp[Gd]
 |succ f ih=>
  simp only[Gd,List.nodup_cons,List.mem_flatMap];refine⟨?_,?_⟩
  ·rintro⟨k,hk,hj⟩;obtain⟨k1,k2⟩:=(Ge hr h0 hi).1 hk;obtain⟨_,m,_,e⟩:=(Ef hr h0 k1).1 hj;exact hc m (by rw[DI,e];exact k2)
  ·rw[List.Nodup,List.pairwise_flatMap];refine⟨fun k hk=>?_,?_⟩
   ·obtain⟨k1,k2⟩:=(Ge hr h0 hi).1 hk;exact ih k1 (XJ hc k2)
   ·have hn:(Dv ids ups n i).Nodup:=List.Nodup.sublist List.filter_sublist List.nodup_range;refine List.Pairwise.imp_of_mem ?_ hn;intro a b ha hb hab x hx y hy exy;subst exy;obtain⟨a1,a2⟩:=(Ge hr h0 hi).1 ha;obtain⟨b1,b2⟩:=(Ge hr h0 hi).1 hb;obtain⟨_,p,_,ep⟩:=(Ef hr h0 a1).1 hx;obtain⟨_,q,_,eq⟩:=(Ef hr h0 b1).1 hy;have far:∀{a b p q:Nat},Ky ids ups n a=some i->Ky ids ups n b=some i->Bn ids ups n p x=some a->Bn ids ups n q x=some b->p<q->False:=by
     intro a b p q a2 b2 ep eq hpq;have e1:q=p+(q-p-1+1):=(by omega);rw[e1,Ew,ep,Option.bind_some]at eq;simp only[Bn,a2,Option.bind_some]at eq;exact hc (q-p-1) (by rw[DI,eq];exact b2)
    rcases Nat.lt_trichotomy p q with h|h|h
    ·exact far a2 b2 ep eq h
    ·subst h;rw[ep]at eq;exact hab (by simpa using eq)
    ·exact far b2 a2 eq ep h
def Fc(ids ups:Nat->Int)(n:Nat):Bool:=(List.range n).all fun i=>(List.range n).any fun m=>Bn ids ups n m i==some 0
theorem Gq:Fc ids ups n=true↔∀i,i<n->∃m,m<n/\Bn ids ups n m i=some 0:=by
 simp only[Fc,List.all_eq_true,List.any_eq_true,List.mem_range,beq_iff_eq]
theorem YU(hr:Dt ids n)(h0:∀j,j<n->ids j≠ups 0)(hn:0<n):((Gd ids ups n n 0).length=n)↔Fc ids ups n=true:=by
 rw[VH (IN hr h0 hn Gt) (fun x hx=>((Ef hr h0 hn).1 hx).1),Gq];constructor
 ·intro h i hi;exact((Ef hr h0 hn).1 (h i hi)).2
 ·intro h i hi;exact(Ef hr h0 hn).2 ⟨hi,h i hi⟩
theorem Oq{i m:Nat}(h:Bn ids ups n m i=some 0):Iq ids ups n i:=Pr Gt h
end
end Go.Proofs.YtblapfnglojgjaaGreatDoor
