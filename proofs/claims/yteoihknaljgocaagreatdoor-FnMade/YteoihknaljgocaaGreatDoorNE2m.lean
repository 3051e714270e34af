import Derived.Test.YteoihknaljgocaaGreatDoorND1m
import Derived.Test.YteoihknaljgocaaGreatDoorNU1m
namespace Go.Proofs.YteoihknaljgocaaGreatDoor
open Go Go.RowKit Go.Deep Go.Maps Go.Proofs.Tryz
variable {w:World}{B n m ca co:Nat}{ta oa:Option Addr}{lt:List Ae}{lo:List Ab}{s:Al}
def aZ(X:Ae)(c:Int)(tx:ByteArray)(x:Ae):Prop:=(c=5/\(X.made=30∨X.own.n=10)/\x=X/\tx=⟨#[]⟩)∨(c=0/\¬(X.made=30∨X.own.n=10)/\tx=⟨(Db (Aq X).toNat).toArray⟩/\∃(a:Option Addr) (cc:Nat),x=⟨X.id,X.b1,X.c1,X.b2,X.c2,⟨a,(DT ((List.range X.own.n).map X.own.h) (Aq X)).length,cc,AV (DT ((List.range X.own.n).map X.own.h) (Aq X))⟩,X.made+1⟩)
def ZN(X:Ae)(s:Al)(c:Int)(x:Ae):Prop:=(c=4/\Ib X s=false/\x=X)∨(c=0/\Ib X s=true/\∃d:Ar,s.c1.same d/\x=⟨X.id,s.b1,d,X.b2,X.c2,X.own,X.made⟩)
def ZM(X:Ae)(s:Al)(c:Int)(x:Ae):Prop:=(c=4/\hasB X.own.n X.own.h s.cat=false/\x=X)∨(c=0/\hasB X.own.n X.own.h s.cat=true/\∃(a:Option Addr) (cc:Nat),x=⟨X.id,X.b1,X.c1,X.b2,X.c2,⟨a,(Dc X.own.h s.cat X.own.n).length,cc,AV (Dc X.own.h s.cat X.own.n)⟩,X.made⟩)
inductive FA(X:Ae) (s:Al) (lt:List Ae) (lo:List Ab) (t:Nat) (c:Int) (tx:ByteArray) (lt':List Ae) (lo':List Ab):Prop
 |k1 (h:s.kind=1) (x:Ae) (e1:lt'=lt.set t x) (e2:lo'=lo) (p:aZ X c tx x)
 |k12 (h:s.kind=12) (x:Ae) (e1:lt'=lt.set t x) (e2:lo'=lo) (e3:tx=⟨#[]⟩) (p:ZN X s c x)
 |k14 (h:s.kind=14) (x:Ae) (e1:lt'=lt.set t x) (e2:lo'=lo) (e3:tx=⟨#[]⟩) (p:ZM X s c x)
 |make (h:s.kind=2∨s.kind=3∨s.kind=4∨s.kind=5) (p:UT X s lt lo t c tx lt' lo')
 |drop (h:s.kind=11) (e1:lt'=lt) (e3:tx=⟨#[]⟩) (p:Zx X s lo c lo')
 |k6 (h:s.kind=6) (p:bg X s lt lo t c tx lt' lo')
 |k7 (h:s.kind=7) (p:bw X s lt lo t c tx lt' lo')
 |k8 (h:s.kind=8) (p:bi X s lt lo t c tx lt' lo')
 |k9 (h:s.kind=9) (p:bh X s lt lo t c tx lt' lo')
 |k10 (h:s.kind=10) (p:Zt X s lt lo t c tx lt' lo')
 |k13 (h:s.kind=13) (p:Zr X s lt lo t c tx lt' lo')
 |k15 (h:s.kind=15) (p:ZD X s lt lo t c tx lt' lo')
theorem BJ.len(h:BJ w B (.slice ta n ca) (.slice oa m co) lt lo):n=lt.length/\m=lo.length:=by
 obtain⟨a,c,e⟩:=Dq.shape h.t;obtain⟨a',c',e'⟩:=AO.shape h.o;cases e;cases e';exact⟨rfl,rfl⟩
def X9(B:Nat)(w:World)(lt:List Ae)(lo:List Ab)(X:Ae)(s:Al)(t:Nat)(e:Ending)(w':World):Prop:=
 ∃(lt':List Ae) (lo':List Ab) (ta:Option Addr) (ca:Nat) (oa:Option Addr) (co:Nat) (c:Int) (tx:ByteArray),e= .returned (.tuple #[.agg #[.slice ta lt'.length ca,.slice oa lo'.length co],.int .i64 c,.string tx])/\BJ w' B (.slice ta lt'.length ca) (.slice oa lo'.length co) lt' lo'/\Below B w w'/\FA X s lt lo t c tx lt' lo'
theorem JH{w':World}{lt':List Ae}{lo':List Ab}{X:Ae}{t:Nat}{e:Ending}{c:Int}{tx:ByteArray}(h:e= .returned (.tuple #[.agg #[.slice ta n ca,.slice oa m co],.int .i64 c,.string tx]))(k:BJ w' B (.slice ta n ca) (.slice oa m co) lt' lo')(b:Below B w w')(a:FA X s lt lo t c tx lt' lo'):X9 B w lt lo X s t e w':=by
 obtain⟨rfl,rfl⟩:=k.len;exact⟨lt',lo',ta,ca,oa,co,c,tx,h,k,b,a⟩
theorem N9(lt:List Ae)(lo:List Ab)(g ca q co B:Nat)(w:World)(st:BJ w B (.slice g lt.length ca) (.slice q lo.length co) lt lo)(hB:B<=w.heap.size)(ok:okL lt lo=true)(t:Nat)(ht:t<lt.length)(s:Al)(hs:∀W,Below B w W->s.at W)(so:s.ok=true)(hk:s.kind=1∨s.kind=12∨s.kind=14):Calls prog 59 #[.agg #[.slice g lt.length ca,.slice q lo.length co],.int .i64 t,.agg s] w (X9 B w lt lo lt[t] s t):=by
 have X:=Ef ok _ (List.getElem_mem ht);have sf:=GB so;have sa:s.at w:=hs w (Below.refl _ _);rcases hk with hk|hk|hk
 ·refine(Tl lt lo g ca (some ⟨q,0,none⟩) co B w st hB t ht _ rfl X.small s hk X.id X.made (Jb X.own)).mono ?_;rintro e w' ⟨x,c,tx,e1,k1,b1,p⟩;exact JH e1 k1 b1 (.k1 hk x rfl rfl p)
 ·refine(Qy lt lo g ca (some ⟨q,0,none⟩) co B w st hB t ht _ rfl X.small s sa hk (by have:=(BH sf.l1).2;omega) (BH X.l1).1 (BH X.l2).1 (BH sf.l1).1).mono ?_;rintro e w' ⟨x,c,e1,k1,b1,p⟩;exact JH e1 k1 b1 (.k12 hk x rfl rfl rfl p)
 ·refine(QR lt lo g ca (some ⟨q,0,none⟩) co B w st hB t ht _ rfl X.small s hk).mono ?_;rintro e w' ⟨x,c,e1,k1,b1,p⟩;exact JH e1 k1 b1 (.k14 hk x rfl rfl rfl p)
theorem IJ(sf:US s):((s.kind=2∨s.kind=3∨s.kind=4)->s.cat=0)/\(s.kind=5->0<=s.cat):=by
 have h:=sf.cat;unfold M8 Sa at h;constructor
 ·intro hk;by_cases e:s.cat=0
  ·exact e
  ·have e1:(s.cat==0)=false:=(by simpa using e);rw[e1]at h;rcases hk with hk|hk|hk<;>(rw[hk]at h;simp at h)
 ·intro hk;by_cases e:s.cat=0
  ·omega
  ·have e1:(s.cat==0)=false:=(by simpa using e);rw[e1,hk]at h;simp[Ei]at h;omega
theorem Q0(ok:okL lt lo=true):∀x∈lo,x.c1.n<=1048576/\Fo x.c1:=fun x hx=>by
 have h:=BH (Ed ok x hx).l1;exact⟨by have:=h.2;omega,h.1⟩
theorem WW(ok:okL lt lo=true):∀x∈lo,x.c2.n<=1048576/\Fo x.c2:=fun x hx=>by
 have h:=BH (Ed ok x hx).l2;exact⟨by have:=h.2;omega,h.1⟩
theorem KC(lt:List Ae)(lo:List Ab)(g ca q co B:Nat)(w:World)(st:BJ w B (.slice g lt.length ca) (.slice q lo.length co) lt lo)(hB:B<=w.heap.size)(ok:okL lt lo=true)(t:Nat)(ht:t<lt.length)(s:Al)(hs:∀W,Below B w W->s.at W)(so:s.ok=true)(hk:s.kind=2∨s.kind=3∨s.kind=4∨s.kind=5):Calls prog 60 #[.agg #[.slice g lt.length ca,.slice q lo.length co],.int .i64 t,.agg s] w (X9 B w lt lo lt[t] s t):=by
 have X:=Ef ok _ (List.getElem_mem ht);have sf:=GB so;have n1:=FE ok;have n2:=Ek ok;refine(Ua lt lo g ca q co B w st hB t ht _ rfl X.small s hs (by have:=(BH sf.l1).2;omega) (by have:=(BH sf.l2).2;omega) (BH X.l1).1 (BH X.l2).1 (BH sf.l1).1 X.id X.made (by omega) (by omega) (Cm ok) (Q0 ok) ?_).mono ?_
 ·rcases hk with h|h|h|h
  ·exact .inl ⟨.inl h,(IJ sf).1 (.inl h)⟩
  ·exact .inl ⟨.inr (.inl h),(IJ sf).1 (.inr (.inl h))⟩
  ·exact .inl ⟨.inr (.inr h),(IJ sf).1 (.inr (.inr h))⟩
  ·exact .inr ⟨h,(IJ sf).2 h⟩
 ·rintro e w' ⟨lt',lo',ob,cb,c,tx,e1,k1,b1,p⟩;exact JH e1 k1 b1 (.make hk p)
theorem XT(lt:List Ae)(lo:List Ab)(g ca q co B:Nat)(w:World)(st:BJ w B (.slice g lt.length ca) (.slice q lo.length co) lt lo)(hB:B<=w.heap.size)(ok:okL lt lo=true)(t:Nat)(ht:t<lt.length)(s:Al)(_hs:∀W,Below B w W->s.at W)(_so:s.ok=true)(hk:s.kind=11):Calls prog 61 #[.agg #[.slice g lt.length ca,.slice q lo.length co],.int .i64 t,.agg s] w (X9 B w lt lo lt[t] s t):=by
 have X:=Ef ok _ (List.getElem_mem ht);have n1:=FE ok;have n2:=Ek ok;refine(UH lt lo g ca q co B w st hB t ht _ rfl X.small s (BH X.l1).1 (by omega) (by omega) (Cm ok) (Q0 ok) ok).mono ?_;rintro e w' ⟨lo',ob,cb,c,e1,k1,b1,p⟩;exact JH e1 k1 b1 (.drop hk rfl rfl p)
theorem YY(lt:List Ae)(lo:List Ab)(g ca q co B:Nat)(w:World)(st:BJ w B (.slice g lt.length ca) (.slice q lo.length co) lt lo)(hB:B<=w.heap.size)(ok:okL lt lo=true)(t:Nat)(ht:t<lt.length)(s:Al)(hs:∀W,Below B w W->s.at W)(_so:s.ok=true)(hk:s.kind=6∨s.kind=7∨s.kind=8∨s.kind=9∨s.kind=10∨s.kind=13∨s.kind=15):Calls prog 62 #[.agg #[.slice g lt.length ca,.slice q lo.length co],.int .i64 t,.agg s] w (X9 B w lt lo lt[t] s t):=by
 have X:=Ef ok _ (List.getElem_mem ht);have n1:=FE ok;have n2:=Ek ok;have hI:∀x∈lo,x.jA.n<=8:=fun x hx=>(Lg ok x hx).1;have hW:∀x∈lo,x.own.n<=10:=fun x hx=>Jb (Ed ok x hx).own;have hx:=Jb X.own;refine(VF lt lo g ca q co B w st hB t ht _ rfl X.small s hs (BH X.l1).1 (by omega) (by omega) (Cm ok) (Q0 ok) (fun x hx=>by have:=hI x hx;omega) (by omega) (Hv ok) (WW ok) (fun x hx=>by have:=hW x hx;omega) (by omega) hk).mono ?_;rintro e w' ⟨lt',lo',c,tx,e1,k1,b1,p⟩;refine JH e1 k1 b1 ?_;cases p with
 |no h hc ht e1 e2=>
  rcases hk with hk|hk|hk|hk|hk|hk|hk
  ·exact .k6 hk (.inl ⟨by rw[hk]at h;exact h,hc,ht,e1,e2⟩)
  ·exact .k7 hk (.inl ⟨by rw[hk]at h;exact h,hc,ht,e1,e2⟩)
  ·exact .k8 hk (.inl ⟨by rw[hk]at h;exact h,hc,ht,e1,e2⟩)
  ·exact .k9 hk (.inl ⟨by rw[hk]at h;exact h,hc,ht,e1,e2⟩)
  ·exact .k10 hk (.inl ⟨by rw[hk]at h;exact h,hc,ht,e1,e2⟩)
  ·exact .k13 hk (.inl ⟨by rw[hk]at h;exact h,hc,ht,e1,e2⟩)
  ·exact .k15 hk (.inl ⟨by rw[hk]at h;exact h,hc,ht,e1,e2⟩)
 |k6 h p=>exact .k6 h p
 |k7 h p=>exact .k7 h p
 |k8 h p=>exact .k8 h p
 |k9 h p=>exact .k9 h p
 |k10 h p=>exact .k10 h p
 |k13 h p=>exact .k13 h p
 |k15 h p=>exact .k15 h p
end Go.Proofs.YteoihknaljgocaaGreatDoor
