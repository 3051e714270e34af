import Derived.Test.YtblapfnglojgjaaGreatDoorND1k
import Derived.Test.YtblapfnglojgjaaGreatDoorNU1k
namespace Go.Proofs.YtblapfnglojgjaaGreatDoor
open Go Go.RowKit Go.Deep Go.Maps Go.Proofs.Tryz
variable {w:World}{B n m ca co:Nat}{ta oa:Option Addr}{lt:List Af}{lo:List Ae}{s:Bd}
def cY(X:Af)(c:Int)(tx:ByteArray)(x:Af):Prop:=(c=5/\(X.made=30∨X.own.n=10)/\x=X/\tx=⟨#[]⟩)∨(c=0/\¬(X.made=30∨X.own.n=10)/\tx=⟨(Bt (Cc X).toNat).toArray⟩/\∃(a:Option Addr) (cc:Nat),x=⟨X.id,X.b1,X.c1,X.b2,X.c2,⟨a,(DW ((List.range X.own.n).map X.own.h) (Cc X)).length,cc,Bl (DW ((List.range X.own.n).map X.own.h) (Cc X))⟩,X.made+1⟩)
def cz(X:Af)(s:Bd)(c:Int)(x:Af):Prop:=(c=4/\MA X s=false/\x=X)∨(c=0/\MA X s=true/\∃d:AH,s.c1.same d/\x=⟨X.id,s.b1,d,X.b2,X.c2,X.own,X.made⟩)
def cg(X:Af)(s:Bd)(c:Int)(x:Af):Prop:=(c=4/\hasB X.own.n X.own.h s.cat=false/\x=X)∨(c=0/\hasB X.own.n X.own.h s.cat=true/\∃(a:Option Addr) (cc:Nat),x=⟨X.id,X.b1,X.c1,X.b2,X.c2,⟨a,(Dz X.own.h s.cat X.own.n).length,cc,Bl (Dz X.own.h s.cat X.own.n)⟩,X.made⟩)
inductive bu(X:Af) (s:Bd) (lt:List Af) (lo:List Ae) (t:Nat) (c:Int) (tx:ByteArray) (lt':List Af) (lo':List Ae):Prop
 |k1 (h:s.kind=1) (x:Af) (e1:lt'=lt.set t x) (e2:lo'=lo) (p:cY X c tx x)
 |k12 (h:s.kind=12) (x:Af) (e1:lt'=lt.set t x) (e2:lo'=lo) (e3:tx=⟨#[]⟩) (p:cz X s c x)
 |k14 (h:s.kind=14) (x:Af) (e1:lt'=lt.set t x) (e2:lo'=lo) (e3:tx=⟨#[]⟩) (p:cg X s c x)
 |make (h:s.kind=2∨s.kind=3∨s.kind=4∨s.kind=5) (p:Yr X s lt lo t c tx lt' lo')
 |drop (h:s.kind=11) (e1:lt'=lt) (e3:tx=⟨#[]⟩) (p:bI X s lo c lo')
 |k6 (h:s.kind=6) (p:cN X s lt lo t c tx lt' lo')
 |k7 (h:s.kind=7) (p:cS X s lt lo t c tx lt' lo')
 |k8 (h:s.kind=8) (p:dh X s lt lo t c tx lt' lo')
 |k9 (h:s.kind=9) (p:de X s lt lo t c tx lt' lo')
 |k10 (h:s.kind=10) (p:bA X s lt lo t c tx lt' lo')
 |k13 (h:s.kind=13) (p:bE X s lt lo t c tx lt' lo')
 |k15 (h:s.kind=15) (p:bG X s lt lo t c tx lt' lo')
theorem Cf.len(h:Cf w B (.slice ta n ca) (.slice oa m co) lt lo):n=lt.length/\m=lo.length:=by
 obtain⟨a,c,e⟩:=CV.shape h.t;obtain⟨a',c',e'⟩:=Ba.shape h.o;cases e;cases e';exact⟨rfl,rfl⟩
def Zg(B:Nat)(w:World)(lt:List Af)(lo:List Ae)(X:Af)(s:Bd)(t:Nat)(e:Ending)(w':World):Prop:=
 ∃(lt':List Af) (lo':List Ae) (ta:Option Addr) (ca:Nat) (oa:Option Addr) (co:Nat) (c:Int) (tx:ByteArray),e= .returned (.tuple #[.agg #[.slice ta lt'.length ca,.slice oa lo'.length co],.int .i64 c,.string tx])/\Cf w' B (.slice ta lt'.length ca) (.slice oa lo'.length co) lt' lo'/\Below B w w'/\bu X s lt lo t c tx lt' lo'
theorem Kf{w':World}{lt':List Af}{lo':List Ae}{X:Af}{t:Nat}{e:Ending}{c:Int}{tx:ByteArray}(h:e= .returned (.tuple #[.agg #[.slice ta n ca,.slice oa m co],.int .i64 c,.string tx]))(k:Cf w' B (.slice ta n ca) (.slice oa m co) lt' lo')(b:Below B w w')(a:bu X s lt lo t c tx lt' lo'):Zg B w lt lo X s t e w':=by
 obtain⟨rfl,rfl⟩:=k.len;exact⟨lt',lo',ta,ca,oa,co,c,tx,h,k,b,a⟩
theorem Pv(lt:List Af)(lo:List Ae)(g ca q co B:Nat)(w:World)(st:Cf w B (.slice g lt.length ca) (.slice q lo.length co) lt lo)(hB:B<=w.heap.size)(ok:KU lt lo=true)(t:Nat)(ht:t<lt.length)(s:Bd)(hs:∀W,Below B w W->s.at W)(so:s.ok=true)(hk:s.kind=1∨s.kind=12∨s.kind=14):Calls prog 88 #[.agg #[.slice g lt.length ca,.slice q lo.length co],.int .i64 t,.agg s] w (Zg B w lt lo lt[t] s t):=by
 have X:=GD ok _ (List.getElem_mem ht);have sf:=UO so;have sa:s.at w:=hs w (Below.refl _ _);rcases hk with hk|hk|hk
 ·refine(Wa lt lo g ca (some ⟨q,0,none⟩) co B w st hB t ht _ rfl X.small s hk X.id X.made (Nh X.own)).mono ?_;rintro e w' ⟨x,c,tx,e1,k1,b1,p⟩;exact Kf e1 k1 b1 (.k1 hk x rfl rfl p)
 ·refine(RU lt lo g ca (some ⟨q,0,none⟩) co B w st hB t ht _ rfl X.small s sa hk (by have:=(Cn sf.l1).2;omega) (Cn X.l1).1 (Cn X.l2).1 (Cn sf.l1).1).mono ?_;rintro e w' ⟨x,c,e1,k1,b1,p⟩;exact Kf e1 k1 b1 (.k12 hk x rfl rfl rfl p)
 ·refine(Sg lt lo g ca (some ⟨q,0,none⟩) co B w st hB t ht _ rfl X.small s hk).mono ?_;rintro e w' ⟨x,c,e1,k1,b1,p⟩;exact Kf e1 k1 b1 (.k14 hk x rfl rfl rfl p)
theorem PS(sf:Yv s):((s.kind=2∨s.kind=3∨s.kind=4)->s.cat=0)/\(s.kind=5->0<=s.cat):=by
 have h:=sf.cat;unfold ZK Yn at h;constructor
 ·intro hk;by_cases e:s.cat=0
  ·exact e
  ·have e1:(s.cat==0)=false:=(by simpa using e);rw[e1]at h;rcases hk with hk|hk|hk<;>(rw[hk]at h;simp at h)
 ·intro hk;by_cases e:s.cat=0
  ·omega
  ·have e1:(s.cat==0)=false:=(by simpa using e);rw[e1,hk]at h;simp[Ed]at h;omega
theorem Sp(ok:KU lt lo=true):∀x∈lo,x.c1.n<=1048576/\Fg x.c1:=fun x hx=>by
 have h:=Cn (Fs ok x hx).l1;exact⟨by have:=h.2;omega,h.1⟩
theorem ZS(ok:KU lt lo=true):∀x∈lo,x.c2.n<=1048576/\Fg x.c2:=fun x hx=>by
 have h:=Cn (Fs ok x hx).l2;exact⟨by have:=h.2;omega,h.1⟩
theorem Lz(lt:List Af)(lo:List Ae)(g ca q co B:Nat)(w:World)(st:Cf w B (.slice g lt.length ca) (.slice q lo.length co) lt lo)(hB:B<=w.heap.size)(ok:KU lt lo=true)(t:Nat)(ht:t<lt.length)(s:Bd)(hs:∀W,Below B w W->s.at W)(so:s.ok=true)(hk:s.kind=2∨s.kind=3∨s.kind=4∨s.kind=5):Calls prog 89 #[.agg #[.slice g lt.length ca,.slice q lo.length co],.int .i64 t,.agg s] w (Zg B w lt lo lt[t] s t):=by
 have X:=GD ok _ (List.getElem_mem ht);have sf:=UO so;have n1:=Gn ok;have n2:=FR ok;refine(Wp lt lo g ca q co B w st hB t ht _ rfl X.small s hs (by have:=(Cn sf.l1).2;omega) (by have:=(Cn sf.l2).2;omega) (Cn X.l1).1 (Cn X.l2).1 (Cn sf.l1).1 X.id X.made (by omega) (by omega) (Hs ok) (Sp ok) ?_).mono ?_
 ·rcases hk with h|h|h|h
  ·exact .inl ⟨.inl h,(PS sf).1 (.inl h)⟩
  ·exact .inl ⟨.inr (.inl h),(PS sf).1 (.inr (.inl h))⟩
  ·exact .inl ⟨.inr (.inr h),(PS sf).1 (.inr (.inr h))⟩
  ·exact .inr ⟨h,(PS sf).2 h⟩
 ·rintro e w' ⟨lt',lo',ob,cb,c,tx,e1,k1,b1,p⟩;exact Kf e1 k1 b1 (.make hk p)
theorem YF(lt:List Af)(lo:List Ae)(g ca q co B:Nat)(w:World)(st:Cf w B (.slice g lt.length ca) (.slice q lo.length co) lt lo)(hB:B<=w.heap.size)(ok:KU lt lo=true)(t:Nat)(ht:t<lt.length)(s:Bd)(_hs:∀W,Below B w W->s.at W)(_so:s.ok=true)(hk:s.kind=11):Calls prog 90 #[.agg #[.slice g lt.length ca,.slice q lo.length co],.int .i64 t,.agg s] w (Zg B w lt lo lt[t] s t):=by
 have X:=GD ok _ (List.getElem_mem ht);have n1:=Gn ok;have n2:=FR ok;refine(VC lt lo g ca q co B w st hB t ht _ rfl X.small s (Cn X.l1).1 (by omega) (by omega) (Hs ok) (Sp ok) ok).mono ?_;rintro e w' ⟨lo',ob,cb,c,e1,k1,b1,p⟩;exact Kf e1 k1 b1 (.drop hk rfl rfl p)
theorem bg(lt:List Af)(lo:List Ae)(g ca q co B:Nat)(w:World)(st:Cf w B (.slice g lt.length ca) (.slice q lo.length co) lt lo)(hB:B<=w.heap.size)(ok:KU lt lo=true)(t:Nat)(ht:t<lt.length)(s:Bd)(hs:∀W,Below B w W->s.at W)(_so:s.ok=true)(hk:s.kind=6∨s.kind=7∨s.kind=8∨s.kind=9∨s.kind=10∨s.kind=13∨s.kind=15):Calls prog 91 #[.agg #[.slice g lt.length ca,.slice q lo.length co],.int .i64 t,.agg s] w (Zg B w lt lo lt[t] s t):=by
 have X:=GD ok _ (List.getElem_mem ht);have n1:=Gn ok;have n2:=FR ok;have hI:∀x∈lo,x.jA.n<=8:=fun x hx=>(RE ok x hx).1;have hW:∀x∈lo,x.own.n<=10:=fun x hx=>Nh (Fs ok x hx).own;have hx:=Nh X.own;refine(Xv lt lo g ca q co B w st hB t ht _ rfl X.small s hs (Cn X.l1).1 (by omega) (by omega) (Hs ok) (Sp ok) (fun x hx=>by have:=hI x hx;omega) (by omega) (Sl ok) (ZS ok) (fun x hx=>by have:=hW x hx;omega) (by omega) hk).mono ?_;rintro e w' ⟨lt',lo',c,tx,e1,k1,b1,p⟩;refine Kf e1 k1 b1 ?_;cases p with
 |no h hc ht e1 e2=>
  rcases hk with hk|hk|hk|hk|hk|hk|hk
  ·exact .k6 hk (.inl ⟨by rw[hk]at h;exact h,hc,ht,e1,e2⟩)
  ·exact .k7 hk (.inl ⟨by rw[hk]at h;exact h,hc,ht,e1,e2⟩)
  ·exact .k8 hk (.inl ⟨by rw[hk]at h;exact h,hc,ht,e1,e2⟩)
  ·exact .k9 hk (.inl ⟨by rw[hk]at h;exact h,hc,ht,e1,e2⟩)
  ·exact .k10 hk (.inl ⟨by rw[hk]at h;exact h,hc,ht,e1,e2⟩)
  ·exact .k13 hk (.inl ⟨by rw[hk]at h;exact h,hc,ht,e1,e2⟩)
  ·exact .k15 hk (.inl ⟨by rw[hk]at h;exact h,hc,ht,e1,e2⟩)
 |k6 h p=>exact .k6 h p
 |k7 h p=>exact .k7 h p
 |k8 h p=>exact .k8 h p
 |k9 h p=>exact .k9 h p
 |k10 h p=>exact .k10 h p
 |k13 h p=>exact .k13 h p
 |k15 h p=>exact .k15 h p
end Go.Proofs.YtblapfnglojgjaaGreatDoor
