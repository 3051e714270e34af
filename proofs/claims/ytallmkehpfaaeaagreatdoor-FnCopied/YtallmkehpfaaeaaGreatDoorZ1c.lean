import Derived.Test.YtallmkehpfaaeaaGreatDoorZ0c
import Derived.Lib.ConvBytes
set_option maxRecDepth 100000
set_option maxHeartbeats 4000000
namespace Go.Proofs.YtallmkehpfaaeaaGreatDoor
open Go.RowKit Go.Deep Go.Proofs.Tryz
def Dg(id made b1:Int)(n1:Nat)(f1 g1:Nat->Int)(b2:Int)(n2:Nat)(f2 g2:Nat->Int)(n3:Nat)(h:Nat->Int):Bool:=
 Dt id 1 9&&AO b1 n1 f1 g1&&AO b2 n2 f2 g2&&BH n3 h&&Dt made 0 30
theorem Tj{id made b1:Int}{n1:Nat}{f1 g1:Nat->Int}{b2:Int}{n2:Nat}{f2 g2:Nat->Int}{n3:Nat}{h:Nat->Int}(t0:Dt id 1 9=true)(t1:AO b1 n1 f1 g1=true)(t2:AO b2 n2 f2 g2=true)(t3:BH n3 h=true):
 Dg id made b1 n1 f1 g1 b2 n2 f2 g2 n3 h=Dt made 0 30:=by simp[Dg,t0,t1,t2,t3]
theorem PM(id made b1:Int)(a1:Option Addr)(n1 k1:Nat)(f1 g1:Nat->Int)(b2:Int)(a2:Option Addr)(n2 k2:Nat)(f2 g2:Nat->Int)(a3:Option Addr)(n3 k3:Nat)(h:Nat->Int)(w:World)
 (hn1:n1<=maxLen)(hn2:n2<=maxLen)(hn3:n3<=maxLen)(hc1:AI w a1 n1 f1 g1)(hc2:AI w a2 n2 f2 g2)(hc3:AX w a3 n3 h):
 Calls prog 77 #[.agg #[.int .i64 id,.int .i64 b1,.slice a1 n1 k1,.int .i64 b2,.slice a2 n2 k2,.slice a3 n3 k3,.int .i64 made]] w fun e w'=>e= .returned (.bool (Dg id made b1 n1 f1 g1 b2 n2 f2 g2 n3 h))/\Below w w w':=by
 have hb0:=(Below.refl _ w).alloc (Nat.le_refl _) (.cells #[.int .i64 id,.int .i64 b1,.slice a1 n1 k1,.int .i64 b2,.slice a2 n2 k2,.slice a3 n3 k3,.int .i64 made] 42);have C1:=hc1.below hb0;have C2:=hc2.below hb0;have C3:=hc3.below hb0;clear hc1 hc2 hc3;by_cases t0:Dt id 1 9=true
 ·skip;go_enter func77,ntmps77
  go_wp2_with(go_at_call 80;refine(BF _ _ _ _).mono ?_;rintro e w' ⟨rfl,rfl⟩)
  refine(Ga _ _ _ _ f1 g1 _ hn1 C1).mono ?_;rintro e w1 ⟨rfl,hb1⟩;obtain⟨q1,_⟩:=Iz hb1;have z1:w.heap.size<w1.heap.size:=by have:=hb1.size;simp at this;omega
  have B1:Below w w w1:=hb0.trans (hb1.mono (by simp));by_cases t1:AO b1 n1 f1 g1=true
  ·go_wp2_with fail
   refine(Ga _ _ _ _ f2 g2 _ hn2 (C2.below hb1)).mono ?_;rintro e w2 ⟨rfl,hb2⟩;obtain⟨q2,_⟩:=Iz hb2;have z2:w.heap.size<w2.heap.size:=(by have:=hb2.size;omega);have B2:Below w w w2:=B1.trans (hb2.mono (by omega));by_cases t2:AO b2 n2 f2 g2=true
   ·go_wp2_with fail
    refine(MG _ _ _ h _ hn3 ((C3.below hb1).below hb2)).mono ?_;rintro e w3 ⟨rfl,hb3⟩;obtain⟨q3,_⟩:=Iz hb3;have z3:w.heap.size<w3.heap.size:=(by have:=hb3.size;omega);have B3:Below w w w3:=B2.trans (hb3.mono (by omega));by_cases t3:BH n3 h=true
    ·go_wp2_with(go_at_call 80;refine(BF _ _ _ _).mono ?_;rintro e w' ⟨rfl,rfl⟩)
     go_ret;exact⟨Af (by simp[Dg,t0,t1,t2,t3]),B3⟩
    ·have t3':BH n3 h=false:=(by simpa using t3);clear t3;go_wp2;go_ret;exact⟨Af (by simp[Dg,t3']),B3⟩
   ·have t2':AO b2 n2 f2 g2=false:=(by simpa using t2);clear t2;go_wp2;go_ret;exact⟨Af (by simp[Dg,t2']),B2⟩
  ·have t1':AO b1 n1 f1 g1=false:=(by simpa using t1);clear t1;go_wp2;go_ret;exact⟨Af (by simp[Dg,t1']),B1⟩
 ·have t0':Dt id 1 9=false:=by simpa using t0
  clear t0;go_enter func77,ntmps77
  go_wp2_with(go_at_call 80;refine(BF _ _ _ _).mono ?_;rintro e w' ⟨rfl,rfl⟩)
  go_ret;exact⟨Af (by simp[Dg,t0']),hb0⟩
theorem Hn(id made b1:Int)(a1:Option Addr)(n1 k1:Nat)(f1 g1:Nat->Int)(b2:Int)(a2:Option Addr)(n2 k2:Nat)(f2 g2:Nat->Int)(a3:Option Addr)(n3 k3:Nat)(h:Nat->Int)(w:World)
 (hn1:n1<=maxLen)(hn2:n2<=maxLen)(hn3:n3<=maxLen)(hc1:AI w a1 n1 f1 g1)(hc2:AI w a2 n2 f2 g2)(hc3:AX w a3 n3 h):
 Calls prog 58 #[.agg #[.int .i64 id,.int .i64 b1,.slice a1 n1 k1,.int .i64 b2,.slice a2 n2 k2,.slice a3 n3 k3,.int .i64 made]] w fun e w'=>e= .returned (.bool (Dg id made b1 n1 f1 g1 b2 n2 f2 g2 n3 h))/\Below w w w':=by
 have hb0:=(Below.refl _ w).alloc (Nat.le_refl _) (.cells #[.int .i64 id,.int .i64 b1,.slice a1 n1 k1,.int .i64 b2,.slice a2 n2 k2,.slice a3 n3 k3,.int .i64 made] 42);have C1:=hc1.below hb0;have C2:=hc2.below hb0;have C3:=hc3.below hb0;clear hc1 hc2 hc3;by_cases t0:Dt id 1 9=true
 ·obtain⟨s1,s2⟩:=Dz.1 t0;go_enter func58,ntmps58
  go_wp2_with fail
  refine(Ds _ _ _ _ f1 g1 _ hn1 C1).mono ?_;rintro e w1 ⟨rfl,hb1⟩;obtain⟨q1,_⟩:=Iz hb1;have z1:w.heap.size<w1.heap.size:=by have:=hb1.size;simp at this;omega
  have B1:Below w w w1:=hb0.trans (hb1.mono (by simp));by_cases t1:AO b1 n1 f1 g1=true
  ·go_wp2_with fail
   refine(Ds _ _ _ _ f2 g2 _ hn2 (C2.below hb1)).mono ?_;rintro e w2 ⟨rfl,hb2⟩;obtain⟨q2,_⟩:=Iz hb2;have z2:w.heap.size<w2.heap.size:=(by have:=hb2.size;omega);have B2:Below w w w2:=B1.trans (hb2.mono (by omega));by_cases t2:AO b2 n2 f2 g2=true
   ·go_wp2_with fail
    refine(Hb _ _ _ h _ hn3 ((C3.below hb1).below hb2)).mono ?_;rintro e w3 ⟨rfl,rfl⟩;have B3:=B2;by_cases t3:BH n3 h=true
    ·go_wp2;all_goals
      go_ret;refine⟨Af ?_,B3⟩;rw[Tj t0 t1 t2 t3];first|exact(Ji (by assumption)).symm|exact(Ln (by assumption)).symm
    ·have t3':BH n3 h=false:=(by simpa using t3);clear t3;go_wp2;go_ret;exact⟨Af (by simp[Dg,t3']),B3⟩
   ·have t2':AO b2 n2 f2 g2=false:=(by simpa using t2);clear t2;go_wp2;go_ret;exact⟨Af (by simp[Dg,t2']),B2⟩
  ·have t1':AO b1 n1 f1 g1=false:=(by simpa using t1);clear t1;go_wp2;go_ret;exact⟨Af (by simp[Dg,t1']),B1⟩
 ·have t0':Dt id 1 9=false:=by simpa using t0
  clear t0;go_enter func58,ntmps58
  by_cases s1:1<=id
  ·have s2:¬id<=9:=fun s2=>by simp[Dt,s1,s2]at t0'
   go_wp2;go_ret;exact⟨Af (by simp[Dg,t0']),hb0⟩
  ·go_wp2;go_ret;exact⟨Af (by simp[Dg,t0']),hb0⟩

def Ah(W:World)(P:Nat)(o:Obj):Prop:=W.heap[P]? =some o
theorem Ah.new(W:World)(o:Obj):Ah (W.alloc o) W o:=blk_alloc_new _ _
theorem Ah.lt{W:World}{P:Nat}{o:Obj}(h:Ah W P o):P<W.heap.size:=(Array.getElem?_eq_some_iff.1 h).1
theorem Ah.alloc{W:World}{P:Nat}{o:Obj}(h:Ah W P o)(o':Obj):Ah (W.alloc o') P o:=(blk_alloc_lt _ _ _ h.lt).trans h
theorem Ah.below{W W':World}{P:Nat}{o:Obj}(h:Ah W P o)(hb:Below W W W'):Ah W' P o:=(hb.block P h.lt).trans h
theorem Ah.two{W:World}{P t:Nat}{x y:Value}(h:Ah W P (.cells #[x,y] t)):W.cell? ⟨P,0,none⟩=some x/\W.cell? ⟨P,1,none⟩=some y:=by
 unfold Ah at h;simp[World.cell?,h]
theorem hid{p:Prop}(h:p):Hid p:=h
theorem Ag{w a b:World}(h:Below w w a)(k:Below a a b):Below w w b:=h.trans (k.mono h.size)
structure As where
 a:Option Addr
 n:Nat
 k:Nat
 f:Nat->Int
 g:Nat->Int
structure AM where
 a:Option Addr
 n:Nat
 k:Nat
 h:Nat->Int
def As.at(w:World)(c:As):Prop:=c.n<=maxLen/\AI w c.a c.n c.f c.g
def AM.at(w:World)(c:AM):Prop:=c.n<=maxLen/\AX w c.a c.n c.h
def As.val(c:As):Value:= .slice c.a c.n c.k
def AM.val(c:AM):Value:= .slice c.a c.n c.k
structure Ae where
 id:Int
 b1:Int
 c1:As
 b2:Int
 c2:As
 own:AM
 made:Int
def Ae.val(t:Ae):Value:= .agg #[t.id,t.b1,t.c1.val,t.b2,t.c2.val,t.own.val,t.made]
def Ae.at(w:World)(t:Ae):Prop:=t.c1.at w/\t.c2.at w/\t.own.at w
theorem As.at.below{w w':World}{c:As}(h:c.at w)(hb:Below w w w'):c.at w':=⟨h.1,h.2.below hb⟩
theorem AM.at.below{w w':World}{c:AM}(h:c.at w)(hb:Below w w w'):c.at w':=⟨h.1,h.2.below hb⟩
theorem Ae.at.below{w w':World}{t:Ae}(h:t.at w)(hb:Below w w w'):t.at w':=⟨h.1.below hb,h.2.1.below hb,h.2.2.below hb⟩
structure FH(w:World)(b o:Nat)(t:Ae):Prop where
 c0:w.cell? ⟨b,o,none⟩=some (.int .i64 t.id)
 c1:w.cell? ⟨b,o+1,none⟩=some (.int .i64 t.b1)
 c2:w.cell? ⟨b,o+2,none⟩=some t.c1.val
 c3:w.cell? ⟨b,o+3,none⟩=some (.int .i64 t.b2)
 c4:w.cell? ⟨b,o+4,none⟩=some t.c2.val
 c5:w.cell? ⟨b,o+5,none⟩=some t.own.val
 c6:w.cell? ⟨b,o+6,none⟩=some (.int .i64 t.made)
theorem FH.below{w w':World}{b o:Nat}{t:Ae}(h:FH w b o t)(hl:b<w.heap.size)(hb:Below w w w'):FH w' b o t:=
 ⟨(hb.cell (p:=⟨b,o,none⟩) hl).trans h.c0,(hb.cell (p:=⟨b,o+1,none⟩) hl).trans h.c1,(hb.cell (p:=⟨b,o+2,none⟩) hl).trans h.c2,(hb.cell (p:=⟨b,o+3,none⟩) hl).trans h.c3,(hb.cell (p:=⟨b,o+4,none⟩) hl).trans h.c4,(hb.cell (p:=⟨b,o+5,none⟩) hl).trans h.c5,(hb.cell (p:=⟨b,o+6,none⟩) hl).trans h.c6⟩
def Hf(w:World)(a:Option Addr)(n:Nat)(T:Nat->Ae):Prop:=
 0<n->∃b off,a=some ⟨b,off,none⟩/\b<w.heap.size/\∀i,i<n->FH w b (off+i*7) (T i)/\(T i).at w
theorem Hf.below{w w':World}{a:Option Addr}{n:Nat}{T:Nat->Ae}(h:Hf w a n T)(hb:Below w w w'):Hf w' a n T:=fun hn=>by
 obtain⟨b,off,e,hlt,hc⟩:=h hn;exact⟨b,off,e,Nat.lt_of_lt_of_le hlt hb.size,fun i hi=>⟨(hc i hi).1.below hlt hb,(hc i hi).2.below hb⟩⟩
def Ae.small(t:Ae):Prop:=t.c1.n<=1048576/\t.c2.n<=1048576/\t.own.n<=1048576
def Ii(w:World)(a:Option Addr)(n:Nat)(f:Nat->ByteArray):Prop:=0<n->∃b off,a=some ⟨b,off,none⟩/\b<w.heap.size/\∀i,i<n->w.cell? ⟨b,off+i,none⟩=some (.string (f i))
theorem Ii.below{w w':World}{a:Option Addr}{n:Nat}{f:Nat->ByteArray}(h:Ii w a n f)(hb:Below w w w'):Ii w' a n f:=fun hn=>by
 obtain⟨b,off,e,hlt,hc⟩:=h hn;exact⟨b,off,e,Nat.lt_of_lt_of_le hlt hb.size,fun i hi=>(hb.cell (p:=⟨b,off+i,none⟩) hlt).trans (hc i hi)⟩
structure Ar where
 a:Option Addr
 n:Nat
 k:Nat
 f:Nat->ByteArray
def Ar.at(w:World)(c:Ar):Prop:=c.n<=maxLen/\Ii w c.a c.n c.f/\∀i,i<c.n->(c.f i).size<=maxLen
def Ar.val(c:Ar):Value:= .slice c.a c.n c.k
theorem Ar.at.below{w w':World}{c:Ar}(h:c.at w)(hb:Below w w w'):c.at w':=⟨h.1,h.2.1.below hb,h.2.2⟩
def Ar.small(c:Ar):Prop:=c.n<=1048576/\∀i,i<c.n->(c.f i).size<=1048576
structure Ab where
 id:Int
 kind:Int
 up:Int
 b1:Int
 c1:As
 data:ByteArray
 items:Ar
 own:AM
 b2:Int
 c2:As
def Ab.val(t:Ab):Value:= .agg #[t.id,t.kind,t.up,t.b1,t.c1.val,.string t.data,t.items.val,t.own.val,t.b2,t.c2.val]
def Ab.at(w:World)(t:Ab):Prop:=t.c1.at w/\t.items.at w/\t.own.at w/\t.c2.at w/\t.data.size<=maxLen
theorem Ab.at.below{w w':World}{t:Ab}(h:t.at w)(hb:Below w w w'):t.at w':=⟨h.1.below hb,h.2.1.below hb,h.2.2.1.below hb,h.2.2.2.1.below hb,h.2.2.2.2⟩
def Ab.small(t:Ab):Prop:=t.c1.n<=1048576/\t.data.size<=1048576/\t.items.small/\t.own.n<=1048576/\t.c2.n<=1048576
structure Cr(w:World)(b o:Nat)(t:Ab):Prop where
 c0:w.cell? ⟨b,o,none⟩=some (.int .i64 t.id)
 c1:w.cell? ⟨b,o+1,none⟩=some (.int .i64 t.kind)
 c2:w.cell? ⟨b,o+2,none⟩=some (.int .i64 t.up)
 c3:w.cell? ⟨b,o+3,none⟩=some (.int .i64 t.b1)
 c4:w.cell? ⟨b,o+4,none⟩=some t.c1.val
 c5:w.cell? ⟨b,o+5,none⟩=some (.string t.data)
 c6:w.cell? ⟨b,o+6,none⟩=some t.items.val
 c7:w.cell? ⟨b,o+7,none⟩=some t.own.val
 c8:w.cell? ⟨b,o+8,none⟩=some (.int .i64 t.b2)
 c9:w.cell? ⟨b,o+9,none⟩=some t.c2.val
theorem Cr.below{w w':World}{b o:Nat}{t:Ab}(h:Cr w b o t)(hl:b<w.heap.size)(hb:Below w w w'):Cr w' b o t:=
 ⟨(hb.cell (p:=⟨b,o,none⟩) hl).trans h.c0,(hb.cell (p:=⟨b,o+1,none⟩) hl).trans h.c1,(hb.cell (p:=⟨b,o+2,none⟩) hl).trans h.c2,(hb.cell (p:=⟨b,o+3,none⟩) hl).trans h.c3,(hb.cell (p:=⟨b,o+4,none⟩) hl).trans h.c4,(hb.cell (p:=⟨b,o+5,none⟩) hl).trans h.c5,(hb.cell (p:=⟨b,o+6,none⟩) hl).trans h.c6,(hb.cell (p:=⟨b,o+7,none⟩) hl).trans h.c7,(hb.cell (p:=⟨b,o+8,none⟩) hl).trans h.c8,(hb.cell (p:=⟨b,o+9,none⟩) hl).trans h.c9⟩
def Gz(w:World)(a:Option Addr)(n:Nat)(T:Nat->Ab):Prop:=
 0<n->∃b off,a=some ⟨b,off,none⟩/\b<w.heap.size/\∀i,i<n->Cr w b (off+i*10) (T i)/\(T i).at w
theorem Gz.below{w w':World}{a:Option Addr}{n:Nat}{T:Nat->Ab}(h:Gz w a n T)(hb:Below w w w'):Gz w' a n T:=fun hn=>by
 obtain⟨b,off,e,hlt,hc⟩:=h hn;exact⟨b,off,e,Nat.lt_of_lt_of_le hlt hb.size,fun i hi=>⟨(hc i hi).1.below hlt hb,(hc i hi).2.below hb⟩⟩
theorem Ah.ten{W:World}{P t:Nat}{x0 x1 x2 x3 x4 x5 x6 x7 x8 x9:Value}(h:Ah W P (.cells #[x0,x1,x2,x3,x4,x5,x6,x7,x8,x9] t)):W.cell? ⟨P,0,none⟩=some x0/\W.cell? ⟨P,1,none⟩=some x1/\W.cell? ⟨P,2,none⟩=some x2/\W.cell? ⟨P,3,none⟩=some x3/\W.cell? ⟨P,4,none⟩=some x4/\W.cell? ⟨P,5,none⟩=some x5/\W.cell? ⟨P,6,none⟩=some x6/\W.cell? ⟨P,7,none⟩=some x7/\W.cell? ⟨P,8,none⟩=some x8/\W.cell? ⟨P,9,none⟩=some x9:=by
 unfold Ah at h;simp[World.cell?,h]
def Ab.cells(t:Ab):Array Value:=#[t.id,t.kind,t.up,t.b1,t.c1.val,.string t.data,t.items.val,t.own.val,t.b2,t.c2.val]
structure Av where
 ta:Option Addr
 tn:Nat
 tk:Nat
 T:Nat->Ae
 oa:Option Addr
 on:Nat
 ok:Nat
 O:Nat->Ab
def Av.val(k:Av):Value:= .agg #[.slice k.ta k.tn k.tk,.slice k.oa k.on k.ok]
def Av.at(w:World)(k:Av):Prop:=k.tn<=maxLen/\k.on<=maxLen/\Hf w k.ta k.tn k.T/\Gz w k.oa k.on k.O
theorem Av.at.below{w w':World}{k:Av}(h:k.at w)(hb:Below w w w'):k.at w':=⟨h.1,h.2.1,h.2.2.1.below hb,h.2.2.2.below hb⟩
def Av.small(k:Av):Prop:=(k.tn<=1048576/\∀i,i<k.tn->(k.T i).small)/\(k.on<=1048576/\∀i,i<k.on->(k.O i).small)
def Eo(b:UInt8):Bool:=decide (32<=b.toNat)&&decide (b.toNat<=126)
def Bm(s:ByteArray)(most:Int):Bool:=s.data.toList.all Eo&&decide ((s.size:Int)<=most)
theorem Jv{s:ByteArray}{most:Int}{k:Nat}(h:k<s.size)(hb:Eo s[k]=false):Bm s most=false:=by
 have:s.data.toList.all Eo=false:=by
  rw[List.all_eq_false];exact⟨s[k],Array.getElem_mem_toList h,by simp[hb]⟩
 simp[Bm,this]
theorem Ns{s:ByteArray}{most:Int}(h:∀(k:Nat) (hk:k<s.size),Eo s[k]=true):Bm s most=decide ((s.size:Int)<=most):=by
 have:s.data.toList.all Eo=true:=by
  rw[List.all_eq_true];intro b hb;obtain⟨k,hk,rfl⟩:=List.getElem_of_mem hb;have hk':k<s.size:=by simpa using hk
  have:=h k hk';have e:s[k]=s.data.toList[k]:=rfl;rw[e]at this;exact this
 simp[Bm,this]
theorem Iq{b:UInt8}(h:(b.toNat:Int)<32):Eo b=false:=by
 have:¬32<=b.toNat:=by omega
 simp[Eo,this]
theorem NH{b:UInt8}(h:126<(b.toNat:Int)):Eo b=false:=by
 have:¬b.toNat<=126:=by omega
 simp[Eo,this]
theorem LY{b:UInt8}(h1:32<=(b.toNat:Int))(h2:(b.toNat:Int)<=126):Eo b=true:=by
 have e1:32<=b.toNat:=by omega
 have e2:b.toNat<=126:=by omega
 simp[Eo,e1,e2]
theorem If(s:ByteArray)(most:Int)(w:World)(hn:s.size<=maxLen):
 Calls prog 114 #[.string s,.int .i64 most] w fun e w'=>e= .returned (.bool (Bm s most))/\w'=w:=by
 unfold maxLen at hn;go_enter func114,ntmps114
 go_wp2;go_loop [5] (fun i=>∃k:Nat,k<=s.size/\i= .int .i64 k/\(∀(j:Nat) (hj:j<s.size),j<k->Eo s[j]=true)) (fun i=>s.size-(intOf i).toNat)
 case atStart=>exact⟨0,Nat.zero_le _,rfl,fun j _ hj=>by omega⟩
 case round=>
  obtain⟨k,hk,rfl,hall⟩:=hrel;have HA:Hid (∀(j:Nat) (hj:j<s.size),j<k->Eo s[j]=true):=hall;clear hall;by_cases hlt:k<s.size
  ·have hki:(k:Int)<(s.size:Int):=(by omega);go_wp2
   ·go_ret;rename_i h1 h2 _;refine⟨Af (Jv hlt ?_).symm,rfl⟩;rcases h2 with h2|h2
    ·exact Iq h2
    ·exact NH h2
   ·rename_i h1 h2;go_round;case rel=>
     refine⟨k+1,by omega,by go_num,fun j hj hjk=>?_⟩;by_cases e:j=k
     ·subst e;exact LY h2.1 h2.2
     ·exact HA.out j hj (by omega)
    case measure=>simp[intOf];omega
   ·go_ret;rename_i h1;exact⟨Af (Jv hlt (Iq h1)).symm,rfl⟩
  ·have hki:¬(k:Int)<(s.size:Int):=(by omega);go_wp2;go_ret;exact⟨Af (Ns (fun j hj=>HA j hj (by omega))).symm,rfl⟩
theorem bytesWorld_below(w:World)(e:TypeId)(s:ByteArray):Below w w (Lib.bytesWorld w e s):=
 ⟨rfl,rfl,rfl,by rw[Lib.bytesWorld_size];omega,fun k hk=>Lib.bytesWorld_at_old w e s k hk⟩
theorem IW(s:ByteArray)(w:World)(hn:s.size<=maxLen):
 Calls prog 47 #[.string s] w fun e w'=>e= .returned (.bool (Bm s 40))/\Below w w w':=by
 unfold maxLen at hn;by_cases h40:40<s.size
 ·have h40':(40:Int)<(s.size:Int):=by omega
  go_enter func47,ntmps47
  go_wp2;go_ret;have:¬(s.size:Int)<=40:=by omega
  exact⟨Af (by simp[Bm,this]),Below.refl _ _⟩
 ·have h40':(s.size:Int)<=40:=by omega
  have kc:=fun(w:World) (s:ByteArray)=>Lib.run_convert_string_bytes (P:=prog) w 9 22 5 s underlying9 underlying22 underlying5;go_enter func47,ntmps47
  go_wp2_with fail
  have hB:=bytesWorld_below w 5 s;have hcell:∀(j:Nat) (hj:j<s.size),(Lib.bytesWorld w 5 s).cell? ⟨w,j,none⟩=some (.int .u8 (s[j].toNat:Int)):=fun j hj=>by
   rw[Lib.bytesWorld_cell w 5 s j hj];have e:s.data.toList.getD j 0=s[j]:=by
    have hj':j<s.data.toList.length:=(by simpa using hj);rw[List.getD_eq_getElem?_getD,List.getElem?_eq_getElem hj'];rfl
   rw[e]
  generalize Lib.bytesWorld w 5 s=W at *;generalize grownCap w s.size 0 5=cp at *;go_loop [11] (fun i=>∃k:Nat,k<=s.size/\i= .int .i64 k/\(∀(j:Nat) (hj:j<s.size),j<k->Eo s[j]=true)) (fun i=>s.size-(intOf i).toNat)
  case atStart=>exact⟨0,Nat.zero_le _,rfl,fun j _ hj=>by omega⟩
  case round=>
   obtain⟨k,hk,rfl,hall⟩:=hrel;have HA:Hid (∀(j:Nat) (hj:j<s.size),j<k->Eo s[j]=true):=hall;clear hall;by_cases hlt:k<s.size
   ·have hki:(k:Int)<(s.size:Int):=(by omega);have hc:=hcell k hlt;clear hcell;go_wp2
    ·go_ret;rename_i h1 h2 _;refine⟨Af (Jv hlt ?_).symm,hB⟩;rcases h2 with h2|h2
     ·exact Iq h2
     ·exact NH h2
    ·rename_i h1 h2;go_round;case rel=>
      refine⟨k+1,by omega,by go_num,fun j hj hjk=>?_⟩;by_cases e:j=k
      ·subst e;exact LY h2.1 h2.2
      ·exact HA.out j hj (by omega)
     case measure=>simp[intOf];omega
    ·go_ret;rename_i h1;exact⟨Af (Jv hlt (Iq h1)).symm,hB⟩
   ·have hki:¬(k:Int)<(s.size:Int):=(by omega);clear hcell;go_wp2;go_ret;exact⟨Af (by rw[Ns (fun j hj=>HA.out j hj (by omega))];simpa using h40'),hB⟩
def CY(base:Int)(n:Nat):Bool:=(base==0)&&(n==0)
def WG(kind:Int):Bool:=kind==2||kind==3||kind==4||kind==5||kind==6||kind==7||kind==8||kind==9||kind==10||kind==11||kind==13||kind==15
def XD(kind:Int):Bool:=kind==8
def Oq(kind:Int):Bool:=kind==5||kind==14
def Md(kind:Int):Bool:=kind==6||kind==9
def JM(kind:Int):Bool:=kind==2||kind==3||kind==4||kind==5||kind==12
def JG(kind:Int):Bool:=kind==5
def Xn(kind:Int):Bool:=kind==1||kind==2||kind==3||kind==4||kind==5||kind==6||kind==7||kind==8||kind==9||kind==10||kind==11||kind==12||kind==13||kind==14||kind==15
def JL(n:Int)(used:Bool):Bool:=if used then Dt n 1 9030 else n==0
def KU(kind cat:Int)(used:Bool):Bool:=if cat==0 then kind != 14 else used&&Dt cat 1 9999
theorem IQ(base:Int)(a:Option Addr)(n cap:Nat)(w:World)(hn:n<=maxLen):
 Calls prog 46 #[.agg #[.int .i64 base,.slice a n cap]] w fun e w'=>e= .returned (.bool (CY base n))/\Below w w w':=by
 unfold maxLen at hn;have hb0:=(Below.refl _ w).alloc (Nat.le_refl _) (.cells #[.int .i64 base,.slice a n cap] 30);cases t:(base==0)with
 |true=>
  go_enter func46,ntmps46
  go_wp2;go_ret;refine⟨Af ?_,hb0⟩;unfold CY;rw[t,Bool.true_and];by_cases e:n=0
  ·subst e;rfl
  ·have e1:(n==0)=false:=(by simpa using e);rw[e1];simp;omega
 |false=>
  go_enter func46,ntmps46
  go_wp2;go_ret;exact⟨Af (by simp[CY,t]),hb0⟩
def DU(n:Nat)(f:Nat->ByteArray):Bool:=decide (n<=8)&&(List.range n).all (fun i=>Bm (f i) 40)
theorem Mt{n:Nat}{f:Nat->ByteArray}(e:8<n):DU n f=false:=by
 have:decide (n<=8)=false:=by simp;omega
 simp[DU,this]
theorem Np{n k:Nat}{f:Nat->ByteArray}(hk:k<n)(e:Bm (f k) 40=false):DU n f=false:=by
 have:(List.range n).all (fun i=>Bm (f i) 40)=false:=by
  rw[List.all_eq_false];exact⟨k,List.mem_range.2 hk,by simp[e]⟩
 simp[DU,this]
theorem Lr{n:Nat}{f:Nat->ByteArray}(e:∀i,i<n->Bm (f i) 40=true):DU n f=decide (n<=8):=by
 have:(List.range n).all (fun i=>Bm (f i) 40)=true:=by
  rw[List.all_eq_true];intro i hi;exact e i (List.mem_range.1 hi)
 simp[DU,this]
theorem Qa(a:Option Addr)(n cap:Nat)(f:Nat->ByteArray)(w:World)(hn:n<=maxLen)(hc:Ii w a n f)(hz:∀i,i<n->(f i).size<=maxLen):
 Calls prog 128 #[.slice a n cap] w fun e w'=>e= .returned (.bool (DU n f))/\Below w w w':=by
 unfold maxLen at hn;have HC:=hid hc;have HZ:=hid hz;clear hc hz;by_cases h8:8<n
 ·have h8':(8:Int)<(n:Int):=by omega
  go_enter func128,ntmps128
  go_wp2;go_ret;exact⟨Af (Mt h8).symm,Below.refl _ _⟩
 ·have h8':¬(8:Int)<(n:Int):=by omega
  go_enter func128,ntmps128
  go_wp2;go_loopw [10] (fun i wr=>∃k:Nat,k<=n/\i= .int .i64 k/\Hid (∀j,j<k->Bm (f j) 40=true)/\Below w w wr) (fun i _=>n-(intOf i).toNat)
  case atStart=>exact⟨0,Nat.zero_le _,rfl,hid (fun j hj=>by omega),Below.refl _ _⟩
  case round=>
   obtain⟨k,hk,rfl,HA,hB⟩:=hrel;by_cases hlt:k<n
   ·obtain⟨b,off,rfl,hlt0,hcc⟩:=HC.out.below hB (by omega);have g1:=hcc k hlt;have z:=HZ.out k hlt;have i1:(k:Int)<(n:Int):=(by omega);clear hcc;go_wp2_with fail
    refine(IW _ _ z).mono ?_;rintro e w1 ⟨rfl,hb1⟩;have B1:=Ag hB hb1;clear g1;by_cases t:Bm (f k) 40=true
    ·have HA2:Hid (∀j,j<k+1->Bm (f j) 40=true):=hid (fun j hj=>by
      by_cases e:j=k
      ·subst e;exact t
      ·exact HA.out j (by omega))
     go_wp2;exact⟨⟨k+1,by omega,by go_num,HA2,B1⟩,by simp[intOf];omega⟩
    ·have t':Bm (f k) 40=false:=(by simpa using t);clear t;go_wp2;go_ret;exact⟨Af (Np hlt t').symm,B1⟩
   ·go_wp2;go_ret;have e:k=n:=(by omega);subst e;exact⟨Af (by rw[Lr HA.out];simp;omega),hB⟩
def Gt(t:Ab):Bool:=
 if t.kind=1 then t.items.n==0&&(t.own.n==0&&CY t.b2 t.c2.n)
 else if t.kind=2 then t.data.toList.isEmpty&&(t.own.n==0&&CY t.b2 t.c2.n)
 else if t.kind=3 then t.data.toList.isEmpty&&t.items.n==0&&(t.own.n==0&&CY t.b2 t.c2.n)
 else if t.kind=4 then t.data.toList.isEmpty&&t.items.n==0
 else false
def Ck(t:Ab):Bool:=AO t.b1 t.c1.n t.c1.f t.c1.g&&AO t.b2 t.c2.n t.c2.f t.c2.g&&BH t.own.n t.own.h&&Bm t.data 40&&DU t.items.n t.items.f&&Gt t
theorem Xw(n:Nat):((n:Int)==0)=(n==0):=by
 by_cases e:n=0
 ·subst e;rfl
 ·have e1:(n==0)=false:=by simpa using e
  rw[e1];simp;omega
theorem SC(b:Int)(c:As)(w:World)(hc:c.at w):
 Calls prog 45 #[.agg #[.int .i64 b,c.val]] w fun e w'=>e= .returned (.bool (AO b c.n c.f c.g))/\Below w w w':=Ds b c.a c.n c.k c.f c.g w hc.1 hc.2
theorem Wv(c:AM)(w:World)(hc:c.at w):
 Calls prog 55 #[c.val] w fun e w'=>e= .returned (.bool (BH c.n c.h))/\w'=w:=Hb c.a c.n c.k c.h w hc.1 hc.2
theorem WA(c:Ar)(w:World)(hc:c.at w):
 Calls prog 128 #[c.val] w fun e w'=>e= .returned (.bool (DU c.n c.f))/\Below w w w':=Qa c.a c.n c.k c.f w hc.1 hc.2.1 hc.2.2
theorem XE(b:Int)(c:As)(w:World)(hc:c.at w):
 Calls prog 46 #[.agg #[.int .i64 b,c.val]] w fun e w'=>e= .returned (.bool (CY b c.n))/\Below w w w':=IQ b c.a c.n c.k w hc.1
theorem OZ(t:Ab)(w:World)(ht:t.at w):
 Calls prog 87 #[t.val] w fun e w'=>e= .returned (.bool (Ck t))/\Below w w w':=by
 have n1:No (.cells #[t.id,t.kind,t.up,t.b1,t.c1.val,.string t.data,t.items.val,t.own.val,t.b2,t.c2.val] 47):=⟨⟩;have hb0:=(Below.refl _ w).alloc (Nat.le_refl _) n1;have A0:=Ah.new w n1;have T0:=hid (ht.below hb0);unfold Ab.val;obtain⟨x0,x1,x2,x3,x4,x5,x6,x7,x8,x9⟩:=A0.ten;clear ht;go_enter func87,ntmps87
 go_wp2_with fail
 refine(SC _ t.c1 _ T0.out.1).mono ?_;rintro e w1 ⟨rfl,hb1⟩;have A1:=A0.below hb1;have T1:=hid (T0.out.below hb1);have B1:=Ag hb0 hb1;clear x0 x1 x2 x3 x4 x5 x6 x7 x8 x9 A0 T0 hb0 hb1;obtain⟨x0,x1,x2,x3,x4,x5,x6,x7,x8,x9⟩:=A1.ten;cases t1:AO t.b1 t.c1.n t.c1.f t.c1.g with
 |false=>
  go_wp2;go_ret;exact⟨Af (by simp[Ck,t1]),B1⟩
 |true=>
 go_wp2_with fail
 refine(SC _ t.c2 _ T1.out.2.2.2.1).mono ?_;rintro e w2 ⟨rfl,hb2⟩;have A2:=A1.below hb2;have T2:=hid (T1.out.below hb2);have B2:=Ag B1 hb2;clear x0 x1 x2 x3 x4 x5 x6 x7 x8 x9 A1 T1 B1 hb2;obtain⟨x0,x1,x2,x3,x4,x5,x6,x7,x8,x9⟩:=A2.ten;cases t2:AO t.b2 t.c2.n t.c2.f t.c2.g with
 |false=>
  go_wp2;go_ret;exact⟨Af (by simp[Ck,t2]),B2⟩
 |true=>
 go_wp2_with fail
 refine(Wv t.own _ T2.out.2.2.1).mono ?_;rintro e w3 ⟨rfl,rfl⟩;cases t3:BH t.own.n t.own.h with
 |false=>
  go_wp2;go_ret;exact⟨Af (by simp[Ck,t3]),B2⟩
 |true=>
 go_wp2_with fail
 refine(IW t.data _ T2.out.2.2.2.2).mono ?_;rintro e w4 ⟨rfl,hb4⟩;have A4:=A2.below hb4;have T4:=hid (T2.out.below hb4);have B4:=Ag B2 hb4;clear x0 x1 x2 x3 x4 x5 x6 x7 x8 x9 A2 T2 B2 hb4;obtain⟨x0,x1,x2,x3,x4,x5,x6,x7,x8,x9⟩:=A4.ten;cases t4:Bm t.data 40 with
 |false=>
  go_wp2;go_ret;exact⟨Af (by simp[Ck,t4]),B4⟩
 |true=>
 go_wp2_with fail
 refine(WA t.items _ T4.out.2.1).mono ?_;rintro e w5 ⟨rfl,hb5⟩;have A5:=A4.below hb5;have T5:=hid (T4.out.below hb5);have B5:=Ag B4 hb5;clear x0 x1 x2 x3 x4 x5 x6 x7 x8 x9 A4 T4 B4 hb5;obtain⟨x0,x1,x2,x3,x4,x5,x6,x7,x8,x9⟩:=A5.ten;cases t5:DU t.items.n t.items.f with
 |false=>
  go_wp2;go_ret;exact⟨Af (by simp[Ck,t5]),B5⟩
 |true=>
 have OK:Hid (Ck t=Gt t):=hid (by simp[Ck,t1,t2,t3,t4,t5]);clear t1 t2 t3 t4 t5;unfold Ar.val at x6;go_wp2_with fail
 have hn5:=T5.out.2.1.1;unfold maxLen at hn5;go_quiet(fail)
 unfold AM.val at x7;have hn6:=T5.out.2.2.1.1;unfold maxLen at hn6;have Z:=hid (XE t.b2 t.c2 _ (T5.out.below (below_drewN (Below.refl _ w5) nq)).2.2.2.1);have B6:=below_drewN B5 nq;go_wp2_with(go_at_call 46;refine Z.out.mono ?_;rintro e w6 ⟨rfl,hb6⟩;have x1':=(hb6.cell (p:=⟨w,1,none⟩) A5.lt).trans x1;have B7:=Ag B6 hb6)
 all_goals
  go_ret;refine⟨Af ?_,by assumption⟩;rw[OK.out];first
  |(simp_all[Gt];done)
  |(simp_all[Gt];exact Xw _)
def Bb(ids:Nat->Int)(n:Nat)(x:Int):Option Nat:=(List.range n).find? (fun j=>ids j==x)
def Io(ids ups:Nat->Int)(n i:Nat):Option Nat:=if i=0 then none else Bb ids n (ups i)
def Bd(ids ups:Nat->Int)(n:Nat):Nat->Nat->Option Nat
 |0,i=>some i
 |m+1,i=>(Io ids ups n i).bind (Bd ids ups n m)
def Dd(ids ups:Nat->Int)(n i:Nat):List Nat:=(List.range n).filter (fun j=>ups j==ids i)
def Fe(ids ups:Nat->Int)(n:Nat):Nat->Nat->List Nat
 |0,_=>[]
 |f+1,i=>i::(Dd ids ups n i).flatMap (Fe ids ups n f)
def C0(ids:Nat->Int)(n:Nat):Prop:=∀i j,i<j->j<n->ids i<ids j
theorem Az{ids:Nat->Int}{n:Nat}{x:Int}{j:Nat}(h:Bb ids n x=some j):j<n/\ids j=x:=by
 unfold Bb at h;exact⟨List.mem_range.1 (List.mem_of_find?_eq_some h),by simpa using List.find?_some h⟩
theorem Hc{ids:Nat->Int}{n:Nat}{x:Int}(h:Bb ids n x=none):∀j,j<n->ids j≠x:=by
 unfold Bb at h;rw[List.find?_eq_none]at h;intro j hj e;have:=h j (List.mem_range.2 hj);simp[e]at this
theorem C0.inj{ids:Nat->Int}{n:Nat}(h:C0 ids n){i j:Nat}(hi:i<n)(hj:j<n)(e:ids i=ids j):i=j:=by
 rcases Nat.lt_trichotomy i j with h1|h1|h1
 ·have:=h i j h1 hj;omega
 ·exact h1
 ·have:=h j i h1 hi;omega
theorem Dl{ids:Nat->Int}{n:Nat}(h:C0 ids n){j:Nat}(hj:j<n):Bb ids n (ids j)=some j:=by
 cases e:Bb ids n (ids j)with
 |none=>exact absurd rfl (Hc e j hj)
 |some k=>
  obtain⟨h1,h2⟩:=Az e;rw[h.inj h1 hj h2]
section
variable {ids ups:Nat->Int}{n:Nat}
theorem Ee(a b i:Nat):Bd ids ups n (a+b) i=(Bd ids ups n a i).bind (Bd ids ups n b):=by
 induction a generalizing i with
 |zero=>simp[Bd]
 |succ a ih=>
  rw[Nat.succ_add];simp only[Bd];cases Io ids ups n i with
  |none=>rfl
  |some k=>simp only[Option.bind_some];exact ih k
theorem Nt(i:Nat):Bd ids ups n 1 i=Io ids ups n i:=by
 simp only[Bd];cases Io ids ups n i<;>rfl
theorem Dn(m i:Nat):Bd ids ups n (m+1) i=(Bd ids ups n m i).bind (Io ids ups n):=by
 rw[Ee];congr 1;funext j;exact Nt j
theorem MC{i j:Nat}(h:Io ids ups n i=some j):j<n:=by
 unfold Io at h;split at h
 ·cases h
 ·exact(Az h).1
theorem PV{m i j:Nat}(hi:i<n)(h:Bd ids ups n m i=some j):j<n:=by
 cases m with
 |zero=>simp only[Bd,Option.some.injEq]at h;omega
 |succ m=>
  rw[Dn]at h;cases e:Bd ids ups n m i with
  |none=>simp[e]at h
  |some k=>simp only[e,Option.bind_some]at h;exact MC h
def Gs(ids ups:Nat->Int)(n i:Nat):Prop:=∀p,Bd ids ups n (p+1) i≠some i
theorem Fp:Gs ids ups n 0:=fun p h=>by simp[Bd,Io]at h
theorem SQ{i k:Nat}(h:Gs ids ups n i)(hk:Io ids ups n k=some i):Gs ids ups n k:=fun p e=>by
 have e1:Bd ids ups n p i=some k:=by
  have:=e;simp only[Bd,hk,Option.bind_some]at this;exact this
 exact h p (by rw[Dn,e1];exact hk)
theorem Lu{i k m:Nat}(h:Gs ids ups n i)(hk:Bd ids ups n m k=some i):Gs ids ups n k:=fun p e=>by
 have e2:Bd ids ups n (p+1+m) k=some i:=by rw[Ee,e];exact hk
 rw[Nat.add_comm,Ee,hk]at e2;exact h p e2
theorem He(n:Nat)(l:List Nat)(h:∀x∈l,x<n):l.length=((List.range n).map (fun j=>l.count j)).sum:=by
 induction l with
 |nil=>
  have:∀L:List Nat,(L.map (fun j=>([]:List Nat).count j)).sum=0:=by
   intro L;induction L with
   |nil=>rfl
   |cons a L ih=>rw[List.map_cons,List.sum_cons,ih];rfl
  rw[this];rfl
 |cons a l ih=>
  have h1:=ih (fun x hx=>h x (List.mem_cons_of_mem _ hx));have ha:a<n:=h a List.mem_cons_self;have key:∀N,(((List.range N).map (fun j=>(a::l).count j)).sum)=((List.range N).map (fun j=>l.count j)).sum+(if a<N then 1 else 0):=by
   intro N;induction N with
   |zero=>simp
   |succ N ihN=>
    rw[List.range_succ,List.map_append,List.sum_append,List.map_append,List.sum_append,ihN];simp only[List.map_cons,List.map_nil,List.sum_cons,List.sum_nil,List.count_cons];by_cases e:a=N
    ·subst e;simp;omega
    ·have e1:(a==N)=false:=(by simpa using e);simp only[e1];by_cases e2:a<N
     ·have:a<N+1:=(by omega);simp[e2,this];omega
     ·have:¬a<N+1:=(by omega);simp[e2,this]
  rw[key,if_pos ha,List.length_cons,h1]
theorem Lw(n:Nat)(c:Nat->Nat)(h:∀j,c j<=1):((List.range n).map c).sum<=n:=by
 induction n with
 |zero=>simp
 |succ n ih=>rw[List.range_succ,List.map_append,List.sum_append];have:=h n;simp;omega
theorem Vu(n:Nat)(c:Nat->Nat)(h:∀j,c j<=1)(e:((List.range n).map c).sum=n):∀j,j<n->c j=1:=by
 induction n with
 |zero=>intro j hj;omega
 |succ n ih=>
  rw[List.range_succ,List.map_append,List.sum_append]at e;simp at e;have h1:=Lw n c h;have h2:=h n;intro j hj;by_cases e1:j=n
  ·subst e1;omega
  ·exact ih (by omega) j (by omega)
theorem WO(n:Nat)(c:Nat->Nat)(h:∀j,j<n->c j=1):((List.range n).map c).sum=n:=by
 induction n with
 |zero=>simp
 |succ n ih=>rw[List.range_succ,List.map_append,List.sum_append,ih (fun j hj=>h j (by omega))];simp[h n (by omega)]
theorem FV{l:List Nat}(hl:l.Nodup)(h:∀x∈l,x<n):l.length<=n:=by
 rw[He n l h];exact Lw n _ (fun j=>List.nodup_iff_count.1 hl j)
theorem Rf{l:List Nat}(hl:l.Nodup)(h:∀x∈l,x<n):l.length=n↔∀j,j<n->j∈l:=by
 constructor
 ·intro e j hj;rw[He n l h]at e;have:=Vu n _ (fun j=>List.nodup_iff_count.1 hl j) e j hj;exact List.count_pos_iff.1 (by omega)
 ·intro e;rw[He n l h];refine WO n _ (fun j hj=>?_);have h1:=List.nodup_iff_count.1 hl j;have h2:=List.count_pos_iff.2 (e j hj);omega
theorem LX{i j m:Nat}(hc:Gs ids ups n i)(hj:j<n)(h:Bd ids ups n m j=some i):m<n:=by
 have each:∀q,q<=m->∃x,Bd ids ups n q j=some x:=fun q hq=>by
  have e:m=q+(m-q):=by omega
  rw[e,Ee]at h;cases e1:Bd ids ups n q j with
  |none=>simp[e1]at h
  |some x=>exact⟨x,rfl⟩
 have hl:((List.range (m+1)).map (fun q=>(Bd ids ups n q j).getD 0)).Nodup:=by
  rw[List.Nodup,List.pairwise_map];refine List.Pairwise.imp_of_mem ?_ (List.pairwise_lt_range (n:=m+1));intro a b ha hb hab e;have ha':=List.mem_range.1 ha;have hb':=List.mem_range.1 hb;obtain⟨x,hx⟩:=each a (by omega);obtain⟨y,hy⟩:=each b (by omega);simp only[hx,hy,Option.getD_some]at e;subst e;have e1:b=a+(b-a-1+1):=by omega
  rw[e1,Ee,hx,Option.bind_some]at hy;have e2:m=a+(m-a):=by omega
  rw[e2,Ee,hx,Option.bind_some]at h;exact Lu hc h _ hy
 have:=FV (n:=n) hl (by
  intro x hx;obtain⟨q,hq,rfl⟩:=List.mem_map.1 hx;have hq':=List.mem_range.1 hq;obtain⟨y,hy⟩:=each q (by omega);rw[hy];exact PV hj hy)
 simp at this;omega
theorem Fb(hr:C0 ids n)(h0:∀j,j<n->ids j≠ups 0){i k:Nat}(hi:i<n):k∈Dd ids ups n i↔k<n/\Io ids ups n k=some i:=by
 unfold Dd;rw[List.mem_filter,List.mem_range];constructor
 ·rintro⟨h1,h2⟩;refine⟨h1,?_⟩;have h2':ups k=ids i:=by simpa using h2
  unfold Io;split
  ·rename_i e;subst e;exact absurd h2'.symm (h0 i hi)
  ·rw[h2'];exact Dl hr hi
 ·rintro⟨h1,h2⟩;refine⟨h1,?_⟩;unfold Io at h2;split at h2
  ·cases h2
  ·simp[(Az h2).2]
theorem DG(hr:C0 ids n)(h0:∀j,j<n->ids j≠ups 0){f i j:Nat}(hi:i<n):j∈Fe ids ups n f i↔j<n/\∃m,m<f/\Bd ids ups n m j=some i:=by
 induction f generalizing i with
 |zero=>simp[Fe]
 |succ f ih=>
  simp only[Fe,List.mem_cons,List.mem_flatMap];constructor
  ·rintro(rfl|⟨k,hk,hj⟩)
   ·exact⟨hi,0,by omega,rfl⟩
   ·obtain⟨k1,k2⟩:=(Fb hr h0 hi).1 hk;obtain⟨hj',m,hm,e⟩:=(ih k1).1 hj;exact⟨hj',m+1,by omega,by rw[Dn,e];exact k2⟩
  ·rintro⟨hj,m,hm,e⟩;cases m with
   |zero=>simp only[Bd,Option.some.injEq]at e;exact .inl e
   |succ m=>
    rw[Dn]at e;cases e1:Bd ids ups n m j with
    |none=>simp[e1]at e
    |some k=>
     simp only[e1,Option.bind_some]at e;have hk:=PV hj e1;exact .inr ⟨k,(Fb hr h0 hi).2 ⟨hk,e⟩,(ih hk).2 ⟨hj,m,by omega,e1⟩⟩
theorem G6(hr:C0 ids n)(h0:∀j,j<n->ids j≠ups 0){f i:Nat}(hi:i<n)(hc:Gs ids ups n i):(Fe ids ups n f i).Nodup:=by
 induction f generalizing i with
 |zero=>simp[Fe]
 |succ f ih=>
  simp only[Fe,List.nodup_cons,List.mem_flatMap];refine⟨?_,?_⟩
  ·rintro⟨k,hk,hj⟩;obtain⟨k1,k2⟩:=(Fb hr h0 hi).1 hk;obtain⟨_,m,_,e⟩:=(DG hr h0 k1).1 hj;exact hc m (by rw[Dn,e];exact k2)
  ·rw[List.Nodup,List.pairwise_flatMap];refine⟨fun k hk=>?_,?_⟩
   ·obtain⟨k1,k2⟩:=(Fb hr h0 hi).1 hk;exact ih k1 (SQ hc k2)
   ·have hn:(Dd ids ups n i).Nodup:=List.Nodup.sublist List.filter_sublist List.nodup_range;refine List.Pairwise.imp_of_mem ?_ hn;intro a b ha hb hab x hx y hy exy;subst exy;obtain⟨a1,a2⟩:=(Fb hr h0 hi).1 ha;obtain⟨b1,b2⟩:=(Fb hr h0 hi).1 hb;obtain⟨_,p,_,ep⟩:=(DG hr h0 a1).1 hx;obtain⟨_,q,_,eq⟩:=(DG hr h0 b1).1 hy;have far:∀{a b p q:Nat},Io ids ups n a=some i->Io ids ups n b=some i->Bd ids ups n p x=some a->Bd ids ups n q x=some b->p<q->False:=by
     intro a b p q a2 b2 ep eq hpq;have e1:q=p+(q-p-1+1):=(by omega);rw[e1,Ee,ep,Option.bind_some]at eq;simp only[Bd,a2,Option.bind_some]at eq;exact hc (q-p-1) (by rw[Dn,eq];exact b2)
    rcases Nat.lt_trichotomy p q with h|h|h
    ·exact far a2 b2 ep eq h
    ·subst h;rw[ep]at eq;exact hab (by simpa using eq)
    ·exact far b2 a2 eq ep h
def Eh(ids ups:Nat->Int)(n:Nat):Bool:=(List.range n).all fun i=>(List.range n).any fun m=>Bd ids ups n m i==some 0
theorem Fs:Eh ids ups n=true↔∀i,i<n->∃m,m<n/\Bd ids ups n m i=some 0:=by
 simp only[Eh,List.all_eq_true,List.any_eq_true,List.mem_range,beq_iff_eq]
theorem Wa(hr:C0 ids n)(h0:∀j,j<n->ids j≠ups 0)(hn:0<n):((Fe ids ups n n 0).length=n)↔Eh ids ups n=true:=by
 rw[Rf (G6 hr h0 hn Fp) (fun x hx=>((DG hr h0 hn).1 hx).1),Fs];constructor
 ·intro h i hi;exact((DG hr h0 hn).1 (h i hi)).2
 ·intro h i hi;exact(DG hr h0 hn).2 ⟨hi,h i hi⟩
theorem Li{i m:Nat}(h:Bd ids ups n m i=some 0):Gs ids ups n i:=Lu Fp h
end
end Go.Proofs.YtallmkehpfaaeaaGreatDoor
