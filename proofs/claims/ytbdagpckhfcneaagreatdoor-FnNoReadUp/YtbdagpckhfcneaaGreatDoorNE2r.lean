import Derived.Test.YtbdagpckhfcneaaGreatDoorND1r
import Derived.Test.YtbdagpckhfcneaaGreatDoorNU1r
namespace Go.Proofs.YtbdagpckhfcneaaGreatDoor
open Go Go.RowKit Go.Deep Go.Maps Go.Proofs.Tryz
variable {w:World}{B n m ca co:Nat}{ta oa:Option Addr}{lt:List Ae}{lo:List Ab}{s:Al}
def aJ(X:Ae)(c:Int)(tx:ByteArray)(x:Ae):Prop:=(c=5/\(X.made=30∨X.own.n=10)/\x=X/\tx=⟨#[]⟩)∨(c=0/\¬(X.made=30∨X.own.n=10)/\tx=⟨(Dl (Au X).toNat).toArray⟩/\∃(a:Option Addr) (cc:Nat),x=⟨X.id,X.b1,X.c1,X.b2,X.c2,⟨a,(DD ((List.range X.own.n).map X.own.h) (Au X)).length,cc,AV (DD ((List.range X.own.n).map X.own.h) (Au X))⟩,X.made+1⟩)
def ZO(X:Ae)(s:Al)(c:Int)(x:Ae):Prop:=(c=4/\Il X s=false/\x=X)∨(c=0/\Il X s=true/\∃d:Aq,s.c1.same d/\x=⟨X.id,s.b1,d,X.b2,X.c2,X.own,X.made⟩)
def ai(X:Ae)(s:Al)(c:Int)(x:Ae):Prop:=(c=4/\hasB X.own.n X.own.h s.cat=false/\x=X)∨(c=0/\hasB X.own.n X.own.h s.cat=true/\∃(a:Option Addr) (cc:Nat),x=⟨X.id,X.b1,X.c1,X.b2,X.c2,⟨a,(CR X.own.h s.cat X.own.n).length,cc,AV (CR X.own.h s.cat X.own.n)⟩,X.made⟩)
inductive FJ(X:Ae) (s:Al) (lt:List Ae) (lo:List Ab) (t:Nat) (c:Int) (tx:ByteArray) (lt':List Ae) (lo':List Ab):Prop
 |k1 (h:s.kind=1) (x:Ae) (e1:lt'=lt.set t x) (e2:lo'=lo) (p:aJ X c tx x)
 |k12 (h:s.kind=12) (x:Ae) (e1:lt'=lt.set t x) (e2:lo'=lo) (e3:tx=⟨#[]⟩) (p:ZO X s c x)
 |k14 (h:s.kind=14) (x:Ae) (e1:lt'=lt.set t x) (e2:lo'=lo) (e3:tx=⟨#[]⟩) (p:ai X s c x)
 |make (h:s.kind=2∨s.kind=3∨s.kind=4∨s.kind=5) (p:Yf X s lt lo t c tx lt' lo')
 |drop (h:s.kind=11) (e1:lt'=lt) (e3:tx=⟨#[]⟩) (p:Zr X s lo c lo')
 |k6 (h:s.kind=6) (p:aL X s lt lo t c tx lt' lo')
 |k7 (h:s.kind=7) (p:aN X s lt lo t c tx lt' lo')
 |k8 (h:s.kind=8) (p:aZ X s lt lo t c tx lt' lo')
 |k9 (h:s.kind=9) (p:aX X s lt lo t c tx lt' lo')
 |k10 (h:s.kind=10) (p:Zm X s lt lo t c tx lt' lo')
 |k13 (h:s.kind=13) (p:Zl X s lt lo t c tx lt' lo')
 |k15 (h:s.kind=15) (p:Zs X s lt lo t c tx lt' lo')
theorem Bz.len(h:Bz w B (.slice ta n ca) (.slice oa m co) lt lo):n=lt.length/\m=lo.length:=by
 obtain⟨a,c,e⟩:=Dk.shape h.t;obtain⟨a',c',e'⟩:=AM.shape h.o;cases e;cases e';exact⟨rfl,rfl⟩
def XH(B:Nat)(w:World)(lt:List Ae)(lo:List Ab)(X:Ae)(s:Al)(t:Nat)(e:Ending)(w':World):Prop:=
 ∃(lt':List Ae) (lo':List Ab) (ta:Option Addr) (ca:Nat) (oa:Option Addr) (co:Nat) (c:Int) (tx:ByteArray),e= .returned (.tuple #[.agg #[.slice ta lt'.length ca,.slice oa lo'.length co],.int .i64 c,.string tx])/\Bz w' B (.slice ta lt'.length ca) (.slice oa lo'.length co) lt' lo'/\Below B w w'/\FJ X s lt lo t c tx lt' lo'
theorem Jc{w':World}{lt':List Ae}{lo':List Ab}{X:Ae}{t:Nat}{e:Ending}{c:Int}{tx:ByteArray}(h:e= .returned (.tuple #[.agg #[.slice ta n ca,.slice oa m co],.int .i64 c,.string tx]))(k:Bz w' B (.slice ta n ca) (.slice oa m co) lt' lo')(b:Below B w w')(a:FJ X s lt lo t c tx lt' lo'):XH B w lt lo X s t e w':=by
 obtain⟨rfl,rfl⟩:=k.len;exact⟨lt',lo',ta,ca,oa,co,c,tx,h,k,b,a⟩
theorem NI(lt:List Ae)(lo:List Ab)(g ca q co B:Nat)(w:World)(st:Bz w B (.slice g lt.length ca) (.slice q lo.length co) lt lo)(hB:B<=w.heap.size)(ok:okL lt lo=true)(t:Nat)(ht:t<lt.length)(s:Al)(hs:∀W,Below B w W->s.at W)(so:s.ok=true)(hk:s.kind=1∨s.kind=12∨s.kind=14):Calls prog 78 #[.agg #[.slice g lt.length ca,.slice q lo.length co],.int .i64 t,.agg s] w (XH B w lt lo lt[t] s t):=by
 have X:=Ez ok _ (List.getElem_mem ht);have sf:=Gr so;have sa:s.at w:=hs w (Below.refl _ _);rcases hk with hk|hk|hk
 ·refine(Uc lt lo g ca (some ⟨q,0,none⟩) co B w st hB t ht _ rfl X.small s hk X.id X.made (I6 X.own)).mono ?_;rintro e w' ⟨x,c,tx,e1,k1,b1,p⟩;exact Jc e1 k1 b1 (.k1 hk x rfl rfl p)
 ·refine(Qz lt lo g ca (some ⟨q,0,none⟩) co B w st hB t ht _ rfl X.small s sa hk (by have:=(BI sf.l1).2;omega) (BI X.l1).1 (BI X.l2).1 (BI sf.l1).1).mono ?_;rintro e w' ⟨x,c,e1,k1,b1,p⟩;exact Jc e1 k1 b1 (.k12 hk x rfl rfl rfl p)
 ·refine(Qm lt lo g ca (some ⟨q,0,none⟩) co B w st hB t ht _ rfl X.small s hk).mono ?_;rintro e w' ⟨x,c,e1,k1,b1,p⟩;exact Jc e1 k1 b1 (.k14 hk x rfl rfl rfl p)
theorem Ib(sf:UN s):((s.kind=2∨s.kind=3∨s.kind=4)->s.cat=0)/\(s.kind=5->0<=s.cat):=by
 have h:=sf.cat;unfold Nb Sz at h;constructor
 ·intro hk;by_cases e:s.cat=0
  ·exact e
  ·have e1:(s.cat==0)=false:=(by simpa using e);rw[e1]at h;rcases hk with hk|hk|hk<;>(rw[hk]at h;simp at h)
 ·intro hk;by_cases e:s.cat=0
  ·omega
  ·have e1:(s.cat==0)=false:=(by simpa using e);rw[e1,hk]at h;simp[DZ]at h;omega
theorem Qj(ok:okL lt lo=true):∀x∈lo,x.c1.n<=1048576/\Fe x.c1:=fun x hx=>by
 have h:=BI (DW ok x hx).l1;exact⟨by have:=h.2;omega,h.1⟩
theorem WQ(ok:okL lt lo=true):∀x∈lo,x.c2.n<=1048576/\Fe x.c2:=fun x hx=>by
 have h:=BI (DW ok x hx).l2;exact⟨by have:=h.2;omega,h.1⟩
theorem J5(lt:List Ae)(lo:List Ab)(g ca q co B:Nat)(w:World)(st:Bz w B (.slice g lt.length ca) (.slice q lo.length co) lt lo)(hB:B<=w.heap.size)(ok:okL lt lo=true)(t:Nat)(ht:t<lt.length)(s:Al)(hs:∀W,Below B w W->s.at W)(so:s.ok=true)(hk:s.kind=2∨s.kind=3∨s.kind=4∨s.kind=5):Calls prog 79 #[.agg #[.slice g lt.length ca,.slice q lo.length co],.int .i64 t,.agg s] w (XH B w lt lo lt[t] s t):=by
 have X:=Ez ok _ (List.getElem_mem ht);have sf:=Gr so;have n1:=FG ok;have n2:=Eb ok;refine(Tu lt lo g ca q co B w st hB t ht _ rfl X.small s hs (by have:=(BI sf.l1).2;omega) (by have:=(BI sf.l2).2;omega) (BI X.l1).1 (BI X.l2).1 (BI sf.l1).1 X.id X.made (by omega) (by omega) (Cj ok) (Qj ok) ?_).mono ?_
 ·rcases hk with h|h|h|h
  ·exact .inl ⟨.inl h,(Ib sf).1 (.inl h)⟩
  ·exact .inl ⟨.inr (.inl h),(Ib sf).1 (.inr (.inl h))⟩
  ·exact .inl ⟨.inr (.inr h),(Ib sf).1 (.inr (.inr h))⟩
  ·exact .inr ⟨h,(Ib sf).2 h⟩
 ·rintro e w' ⟨lt',lo',ob,cb,c,tx,e1,k1,b1,p⟩;exact Jc e1 k1 b1 (.make hk p)
theorem Wu(lt:List Ae)(lo:List Ab)(g ca q co B:Nat)(w:World)(st:Bz w B (.slice g lt.length ca) (.slice q lo.length co) lt lo)(hB:B<=w.heap.size)(ok:okL lt lo=true)(t:Nat)(ht:t<lt.length)(s:Al)(_hs:∀W,Below B w W->s.at W)(_so:s.ok=true)(hk:s.kind=11):Calls prog 80 #[.agg #[.slice g lt.length ca,.slice q lo.length co],.int .i64 t,.agg s] w (XH B w lt lo lt[t] s t):=by
 have X:=Ez ok _ (List.getElem_mem ht);have n1:=FG ok;have n2:=Eb ok;refine(Ty lt lo g ca q co B w st hB t ht _ rfl X.small s (BI X.l1).1 (by omega) (by omega) (Cj ok) (Qj ok) ok).mono ?_;rintro e w' ⟨lo',ob,cb,c,e1,k1,b1,p⟩;exact Jc e1 k1 b1 (.drop hk rfl rfl p)
theorem Yu(lt:List Ae)(lo:List Ab)(g ca q co B:Nat)(w:World)(st:Bz w B (.slice g lt.length ca) (.slice q lo.length co) lt lo)(hB:B<=w.heap.size)(ok:okL lt lo=true)(t:Nat)(ht:t<lt.length)(s:Al)(hs:∀W,Below B w W->s.at W)(_so:s.ok=true)(hk:s.kind=6∨s.kind=7∨s.kind=8∨s.kind=9∨s.kind=10∨s.kind=13∨s.kind=15):Calls prog 81 #[.agg #[.slice g lt.length ca,.slice q lo.length co],.int .i64 t,.agg s] w (XH B w lt lo lt[t] s t):=by
 have X:=Ez ok _ (List.getElem_mem ht);have n1:=FG ok;have n2:=Eb ok;have hI:∀x∈lo,x.jA.n<=8:=fun x hx=>(KQ ok x hx).1;have hW:∀x∈lo,x.own.n<=10:=fun x hx=>I6 (DW ok x hx).own;have hx:=I6 X.own;refine(UT lt lo g ca q co B w st hB t ht _ rfl X.small s hs (BI X.l1).1 (by omega) (by omega) (Cj ok) (Qj ok) (fun x hx=>by have:=hI x hx;omega) (by omega) (Hj ok) (WQ ok) (fun x hx=>by have:=hW x hx;omega) (by omega) hk).mono ?_;rintro e w' ⟨lt',lo',c,tx,e1,k1,b1,p⟩;refine Jc e1 k1 b1 ?_;cases p with
 |no h hc ht e1 e2=>
  rcases hk with hk|hk|hk|hk|hk|hk|hk
  ·exact .k6 hk (.inl ⟨by rw[hk]at h;exact h,hc,ht,e1,e2⟩)
  ·exact .k7 hk (.inl ⟨by rw[hk]at h;exact h,hc,ht,e1,e2⟩)
  ·exact .k8 hk (.inl ⟨by rw[hk]at h;exact h,hc,ht,e1,e2⟩)
  ·exact .k9 hk (.inl ⟨by rw[hk]at h;exact h,hc,ht,e1,e2⟩)
  ·exact .k10 hk (.inl ⟨by rw[hk]at h;exact h,hc,ht,e1,e2⟩)
  ·exact .k13 hk (.inl ⟨by rw[hk]at h;exact h,hc,ht,e1,e2⟩)
  ·exact .k15 hk (.inl ⟨by rw[hk]at h;exact h,hc,ht,e1,e2⟩)
 |k6 h p=>exact .k6 h p
 |k7 h p=>exact .k7 h p
 |k8 h p=>exact .k8 h p
 |k9 h p=>exact .k9 h p
 |k10 h p=>exact .k10 h p
 |k13 h p=>exact .k13 h p
 |k15 h p=>exact .k15 h p
end Go.Proofs.YtbdagpckhfcneaaGreatDoor
