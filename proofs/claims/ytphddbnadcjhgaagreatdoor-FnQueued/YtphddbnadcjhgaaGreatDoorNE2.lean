import Derived.Test.YtphddbnadcjhgaaGreatDoorZ12
import Derived.Test.YtphddbnadcjhgaaGreatDoorND1
import Derived.Test.YtphddbnadcjhgaaGreatDoorND2
import Derived.Test.YtphddbnadcjhgaaGreatDoorNU1
namespace Go.Proofs.YtphddbnadcjhgaaGreatDoor
open Go Go.RowKit Go.Deep Go.Maps Go.Proofs.Tryz
def ah(X:Ac)(c:Int)(tx:ByteArray)(x:Ac):Prop:=(c=5/\(X.made=30∨X.own.n=10)/\x=X/\tx=⟨#[]⟩)∨(c=0/\¬(X.made=30∨X.own.n=10)/\tx=⟨(Cu (BI X).toNat).toArray⟩/\∃(a:Option Addr) (cc:Nat),x=⟨X.id,X.b1,X.c1,X.b2,X.c2,⟨a,(Dx ((List.range X.own.n).map X.own.h) (BI X)).length,cc,AM (Dx ((List.range X.own.n).map X.own.h) (BI X))⟩,X.made+1⟩)
def Zk(X:Ac)(s:Al)(c:Int)(x:Ac):Prop:=(c=4/\Kr X s=false/\x=X)∨(c=0/\Kr X s=true/\∃d:Av,s.c1.same d/\x=⟨X.id,s.b1,d,X.b2,X.c2,X.own,X.made⟩)
def Zs(X:Ac)(s:Al)(c:Int)(x:Ac):Prop:=(c=4/\hasB X.own.n X.own.h s.cat=false/\x=X)∨(c=0/\hasB X.own.n X.own.h s.cat=true/\∃(a:Option Addr) (cc:Nat),x=⟨X.id,X.b1,X.c1,X.b2,X.c2,⟨a,(Dl X.own.h s.cat X.own.n).length,cc,AM (Dl X.own.h s.cat X.own.n)⟩,X.made⟩)
inductive FZ(X:Ac) (s:Al) (lt:List Ac) (lo:List Ab) (t:Nat) (c:Int) (tx:ByteArray) (lt':List Ac) (lo':List Ab):Prop
 |k1 (h:s.kind=1) (x:Ac) (e1:lt'=lt.set t x) (e2:lo'=lo) (p:ah X c tx x)
 |k12 (h:s.kind=12) (x:Ac) (e1:lt'=lt.set t x) (e2:lo'=lo) (e3:tx=⟨#[]⟩) (p:Zk X s c x)
 |k14 (h:s.kind=14) (x:Ac) (e1:lt'=lt.set t x) (e2:lo'=lo) (e3:tx=⟨#[]⟩) (p:Zs X s c x)
 |make (h:s.kind=2∨s.kind=3∨s.kind=4∨s.kind=5) (p:Xd X s lt lo t c tx lt' lo')
 |drop (h:s.kind=11) (e1:lt'=lt) (e3:tx=⟨#[]⟩) (p:YZ X s lo c lo')
 |k6 (h:s.kind=6) (p:ai X s lt lo t c tx lt' lo')
 |k7 (h:s.kind=7) (p:ZS X s lt lo t c tx lt' lo')
 |k8 (h:s.kind=8) (p:ZZ X s lt lo t c tx lt' lo')
 |k9 (h:s.kind=9) (p:RH X s lt lo t c tx lt' lo')
 |k10 (h:s.kind=10) (p:JA X s lt lo t c tx lt' lo')
 |k13 (h:s.kind=13) (p:YX X s lt lo t c tx lt' lo')
 |k15 (h:s.kind=15) (p:YU X s lt lo t c tx lt' lo')
theorem Bz.len{w:World}{B n m ca co:Nat}{ta oa:Option Addr}{lt:List Ac}{lo:List Ab}(h:Bz w B (.slice ta n ca) (.slice oa m co) lt lo):n=lt.length/\m=lo.length:=by
 obtain⟨a,c,e⟩:=Dc.shape h.t;obtain⟨a',c',e'⟩:=Ba.shape h.o;cases e;cases e';exact⟨rfl,rfl⟩
def Wz(B:Nat)(w:World)(lt:List Ac)(lo:List Ab)(X:Ac)(s:Al)(t:Nat)(e:Ending)(w':World):Prop:=
 ∃(lt':List Ac) (lo':List Ab) (ta:Option Addr) (ca:Nat) (oa:Option Addr) (co:Nat) (c:Int) (tx:ByteArray),e= .returned (.tuple #[.agg #[.slice ta lt'.length ca,.slice oa lo'.length co],.int .i64 c,.string tx])/\Bz w' B (.slice ta lt'.length ca) (.slice oa lo'.length co) lt' lo'/\Below B w w'/\FZ X s lt lo t c tx lt' lo'
theorem IJ{B:Nat}{w w':World}{lt lt':List Ac}{lo lo':List Ab}{X:Ac}{s:Al}{t:Nat}{e:Ending}{ta oa:Option Addr}{n m ca co:Nat}{c:Int}{tx:ByteArray}(h:e= .returned (.tuple #[.agg #[.slice ta n ca,.slice oa m co],.int .i64 c,.string tx]))(k:Bz w' B (.slice ta n ca) (.slice oa m co) lt' lo')(b:Below B w w')(a:FZ X s lt lo t c tx lt' lo'):Wz B w lt lo X s t e w':=by
 obtain⟨rfl,rfl⟩:=k.len;exact⟨lt',lo',ta,ca,oa,co,c,tx,h,k,b,a⟩
theorem M7(lt:List Ac)(lo:List Ab)(g ca q co B:Nat)(w:World)(st:Bz w B (.slice (some ⟨g,0,none⟩) lt.length ca) (.slice (some ⟨q,0,none⟩) lo.length co) lt lo)(hB:B<=w.heap.size)(ok:okL lt lo=true)(t:Nat)(ht:t<lt.length)(s:Al)(hs:∀W,Below B w W->s.at W)(so:s.ok=true)(hk:s.kind=1∨s.kind=12∨s.kind=14):Calls prog 51 #[.agg #[.slice (some ⟨g,0,none⟩) lt.length ca,.slice (some ⟨q,0,none⟩) lo.length co],.int .i64 t,.agg #[s.th,s.kind,s.id,s.to,s.cat,.string s.data,s.b1,.slice s.c1.a s.c1.n s.c1.k,s.b2,.slice s.c2.a s.c2.n s.c2.k]] w (Wz B w lt lo lt[t] s t):=by
 have X:=Fg ok _ (List.getElem_mem ht);have sf:=Nl so;have sa:s.at w:=hs w (Below.refl _ _);rcases hk with hk|hk|hk
 ·refine(SY lt lo g ca (some ⟨q,0,none⟩) co B w st hB t ht _ rfl X.small s hk X.id X.made (Ja X.own)).mono ?_;rintro e w' ⟨x,c,tx,e1,k1,b1,p⟩;exact IJ e1 k1 b1 (.k1 hk x rfl rfl p)
 ·refine(Qv lt lo g ca (some ⟨q,0,none⟩) co B w st hB t ht _ rfl X.small s sa hk (by have:=(BQ sf.l1).2;omega) (BQ X.l1).1 (BQ X.l2).1 (BQ sf.l1).1).mono ?_;rintro e w' ⟨x,c,e1,k1,b1,p⟩;exact IJ e1 k1 b1 (.k12 hk x rfl rfl rfl p)
 ·refine(Pr lt lo g ca (some ⟨q,0,none⟩) co B w st hB t ht _ rfl X.small s hk).mono ?_;rintro e w' ⟨x,c,e1,k1,b1,p⟩;exact IJ e1 k1 b1 (.k14 hk x rfl rfl rfl p)
theorem Nc{s:Al}(sf:Ug s):((s.kind=2∨s.kind=3∨s.kind=4)->s.cat=0)/\(s.kind=5->0<=s.cat):=by
 have h:=sf.cat;unfold Lv PQ at h;constructor
 ·intro hk;by_cases e:s.cat=0
  ·exact e
  ·have e1:(s.cat==0)=false:=(by simpa using e);rw[e1]at h;rcases hk with hk|hk|hk<;>(rw[hk]at h;simp at h)
 ·intro hk;by_cases e:s.cat=0
  ·omega
  ·have e1:(s.cat==0)=false:=(by simpa using e);rw[e1,hk]at h;simp[Ds]at h;omega
theorem PV{lt:List Ac}{lo:List Ab}(ok:okL lt lo=true):∀x∈lo,x.c1.n<=1048576/\Em x.c1:=fun x hx=>by
 have h:=BQ (Ec ok x hx).l1;exact⟨by have:=h.2;omega,h.1⟩
theorem Xz{lt:List Ac}{lo:List Ab}(ok:okL lt lo=true):∀x∈lo,x.c2.n<=1048576/\Em x.c2:=fun x hx=>by
 have h:=BQ (Ec ok x hx).l2;exact⟨by have:=h.2;omega,h.1⟩
theorem J7(lt:List Ac)(lo:List Ab)(g ca q co B:Nat)(w:World)(st:Bz w B (.slice (some ⟨g,0,none⟩) lt.length ca) (.slice (some ⟨q,0,none⟩) lo.length co) lt lo)(hB:B<=w.heap.size)(ok:okL lt lo=true)(t:Nat)(ht:t<lt.length)(s:Al)(hs:∀W,Below B w W->s.at W)(so:s.ok=true)(hk:s.kind=2∨s.kind=3∨s.kind=4∨s.kind=5):Calls prog 52 #[.agg #[.slice (some ⟨g,0,none⟩) lt.length ca,.slice (some ⟨q,0,none⟩) lo.length co],.int .i64 t,.agg #[s.th,s.kind,s.id,s.to,s.cat,.string s.data,s.b1,.slice s.c1.a s.c1.n s.c1.k,s.b2,.slice s.c2.a s.c2.n s.c2.k]] w (Wz B w lt lo lt[t] s t):=by
 have X:=Fg ok _ (List.getElem_mem ht);have sf:=Nl so;have n1:=Fl ok;have n2:=El ok;refine(Sx lt lo g ca q co B w st hB t ht _ rfl X.small s hs (by have:=(BQ sf.l1).2;omega) (by have:=(BQ sf.l2).2;omega) (BQ X.l1).1 (BQ X.l2).1 (BQ sf.l1).1 X.id X.made (by omega) (by omega) (CN ok) (PV ok) ?_).mono ?_
 ·rcases hk with h|h|h|h
  ·exact .inl ⟨.inl h,(Nc sf).1 (.inl h)⟩
  ·exact .inl ⟨.inr (.inl h),(Nc sf).1 (.inr (.inl h))⟩
  ·exact .inl ⟨.inr (.inr h),(Nc sf).1 (.inr (.inr h))⟩
  ·exact .inr ⟨h,(Nc sf).2 h⟩
 ·rintro e w' ⟨lt',lo',ob,cb,c,tx,e1,k1,b1,p⟩;exact IJ e1 k1 b1 (.make hk p)
theorem Xk(lt:List Ac)(lo:List Ab)(g ca q co B:Nat)(w:World)(st:Bz w B (.slice (some ⟨g,0,none⟩) lt.length ca) (.slice (some ⟨q,0,none⟩) lo.length co) lt lo)(hB:B<=w.heap.size)(ok:okL lt lo=true)(t:Nat)(ht:t<lt.length)(s:Al)(_hs:∀W,Below B w W->s.at W)(_so:s.ok=true)(hk:s.kind=11):Calls prog 53 #[.agg #[.slice (some ⟨g,0,none⟩) lt.length ca,.slice (some ⟨q,0,none⟩) lo.length co],.int .i64 t,.agg #[s.th,s.kind,s.id,s.to,s.cat,.string s.data,s.b1,.slice s.c1.a s.c1.n s.c1.k,s.b2,.slice s.c2.a s.c2.n s.c2.k]] w (Wz B w lt lo lt[t] s t):=by
 have X:=Fg ok _ (List.getElem_mem ht);have n1:=Fl ok;have n2:=El ok;refine(Tp lt lo g ca q co B w st hB t ht _ rfl X.small s (BQ X.l1).1 (by omega) (by omega) (CN ok) (PV ok) ok).mono ?_;rintro e w' ⟨lo',ob,cb,c,e1,k1,b1,p⟩;exact IJ e1 k1 b1 (.drop hk rfl rfl p)
theorem Yt(lt:List Ac)(lo:List Ab)(g ca q co B:Nat)(w:World)(st:Bz w B (.slice (some ⟨g,0,none⟩) lt.length ca) (.slice (some ⟨q,0,none⟩) lo.length co) lt lo)(hB:B<=w.heap.size)(ok:okL lt lo=true)(t:Nat)(ht:t<lt.length)(s:Al)(hs:∀W,Below B w W->s.at W)(_so:s.ok=true)(hk:s.kind=6∨s.kind=7∨s.kind=8∨s.kind=9∨s.kind=10∨s.kind=13∨s.kind=15):Calls prog 54 #[.agg #[.slice (some ⟨g,0,none⟩) lt.length ca,.slice (some ⟨q,0,none⟩) lo.length co],.int .i64 t,.agg #[s.th,s.kind,s.id,s.to,s.cat,.string s.data,s.b1,.slice s.c1.a s.c1.n s.c1.k,s.b2,.slice s.c2.a s.c2.n s.c2.k]] w (Wz B w lt lo lt[t] s t):=by
 have X:=Fg ok _ (List.getElem_mem ht);have n1:=Fl ok;have n2:=El ok;have hI:∀x∈lo,x.items.n<=8:=fun x hx=>(Km ok x hx).1;have hW:∀x∈lo,x.own.n<=10:=fun x hx=>Ja (Ec ok x hx).own;have hx:=Ja X.own;refine(VB lt lo g ca q co B w st hB t ht _ rfl X.small s hs (BQ X.l1).1 (by omega) (by omega) (CN ok) (PV ok) (fun x hx=>by have:=hI x hx;omega) (by omega) (Ip ok) (Xz ok) (fun x hx=>by have:=hW x hx;omega) (by omega) hk).mono ?_;rintro e w' ⟨lt',lo',c,tx,e1,k1,b1,p⟩;refine IJ e1 k1 b1 ?_;cases p with
 |no h hc ht e1 e2=>
  rcases hk with hk|hk|hk|hk|hk|hk|hk
  ·exact .k6 hk (.inl ⟨by rw[hk]at h;exact h,hc,ht,e1,e2⟩)
  ·exact .k7 hk (.inl ⟨by rw[hk]at h;exact h,hc,ht,e1,e2⟩)
  ·exact .k8 hk (.inl ⟨by rw[hk]at h;exact h,hc,ht,e1,e2⟩)
  ·exact .k9 hk (.inl ⟨by rw[hk]at h;exact h,hc,ht,e1,e2⟩)
  ·exact .k10 hk (.inl ⟨by rw[hk]at h;exact h,hc,ht,e1,e2⟩)
  ·exact .k13 hk (.inl ⟨by rw[hk]at h;exact h,hc,ht,e1,e2⟩)
  ·exact .k15 hk (.inl ⟨by rw[hk]at h;exact h,hc,ht,e1,e2⟩)
 |k6 h p=>exact .k6 h p
 |k7 h p=>exact .k7 h p
 |k8 h p=>exact .k8 h p
 |k9 h p=>exact .k9 h p
 |k10 h p=>exact .k10 h p
 |k13 h p=>exact .k13 h p
 |k15 h p=>exact .k15 h p
end Go.Proofs.YtphddbnadcjhgaaGreatDoor
