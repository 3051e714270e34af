import Derived.Test.YtmikapeeflcbfaaGreatDoorZ23
import Derived.Test.YtmikapeeflcbfaaGreatDoorZ14
import Derived.Test.YtmikapeeflcbfaaGreatDoorND1
import Derived.Test.YtmikapeeflcbfaaGreatDoorND2
import Derived.Test.YtmikapeeflcbfaaGreatDoorNU1
import Derived.Test.YtmikapeeflcbfaaGreatDoorZ18
import Derived.Test.YtmikapeeflcbfaaGreatDoorZ19
import Derived.Test.YtmikapeeflcbfaaGreatDoorZ0
import Derived.Lib.SliceRun
set_option maxRecDepth 100000
set_option maxHeartbeats 16000000
namespace Go.Proofs.YtmikapeeflcbfaaGreatDoor
open Go Go.RowKit Go.Deep Go.Maps Go.Proofs.Tryz
def aL(X:Ac)(c:Int)(tx:ByteArray)(x:Ac):Prop:=(c=5/\(X.made=30∨X.own.n=10)/\x=X/\tx=⟨#[]⟩)∨(c=0/\¬(X.made=30∨X.own.n=10)/\tx=⟨(CY (Au X).toNat).toArray⟩/\∃(a:Option Addr) (cc:Nat),x=⟨X.id,X.b1,X.c1,X.b2,X.c2,⟨a,(Dh ((List.range X.own.n).map X.own.h) (Au X)).length,cc,AL (Dh ((List.range X.own.n).map X.own.h) (Au X))⟩,X.made+1⟩)
def Zy(X:Ac)(s:Ak)(c:Int)(x:Ac):Prop:=(c=4/\Ht X s=false/\x=X)∨(c=0/\Ht X s=true/\∃d:Al,s.c1.same d/\x=⟨X.id,s.b1,d,X.b2,X.c2,X.own,X.made⟩)
def Zt(X:Ac)(s:Ak)(c:Int)(x:Ac):Prop:=(c=4/\hasB X.own.n X.own.h s.cat=false/\x=X)∨(c=0/\hasB X.own.n X.own.h s.cat=true/\∃(a:Option Addr) (cc:Nat),x=⟨X.id,X.b1,X.c1,X.b2,X.c2,⟨a,(Cs X.own.h s.cat X.own.n).length,cc,AL (Cs X.own.h s.cat X.own.n)⟩,X.made⟩)
inductive FI(X:Ac) (s:Ak) (lt:List Ac) (lo:List Ab) (t:Nat) (c:Int) (tx:ByteArray) (lt':List Ac) (lo':List Ab):Prop
 |k1 (h:s.kind=1) (x:Ac) (e1:lt'=lt.set t x) (e2:lo'=lo) (p:aL X c tx x)
 |k12 (h:s.kind=12) (x:Ac) (e1:lt'=lt.set t x) (e2:lo'=lo) (e3:tx=⟨#[]⟩) (p:Zy X s c x)
 |k14 (h:s.kind=14) (x:Ac) (e1:lt'=lt.set t x) (e2:lo'=lo) (e3:tx=⟨#[]⟩) (p:Zt X s c x)
 |make (h:s.kind=2∨s.kind=3∨s.kind=4∨s.kind=5) (p:XD X s lt lo t c tx lt' lo')
 |drop (h:s.kind=11) (e1:lt'=lt) (e3:tx=⟨#[]⟩) (p:Zd X s lo c lo')
 |k6 (h:s.kind=6) (p:aI X s lt lo t c tx lt' lo')
 |k7 (h:s.kind=7) (p:bj X s lt lo t c tx lt' lo')
 |k8 (h:s.kind=8) (p:aS X s lt lo t c tx lt' lo')
 |k9 (h:s.kind=9) (p:aK X s lt lo t c tx lt' lo')
 |k10 (h:s.kind=10) (p:Zo X s lt lo t c tx lt' lo')
 |k13 (h:s.kind=13) (p:Zf X s lt lo t c tx lt' lo')
 |k15 (h:s.kind=15) (p:Zm X s lt lo t c tx lt' lo')
theorem Cg.len{w:World}{B n m ca co:Nat}{ta oa:Option Addr}{lt:List Ac}{lo:List Ab}(h:Cg w B (.slice ta n ca) (.slice oa m co) lt lo):n=lt.length/\m=lo.length:=by
 obtain⟨a,c,e⟩:=Dt.shape h.t;obtain⟨a',c',e'⟩:=AI.shape h.o;cases e;cases e';exact⟨rfl,rfl⟩
def XR(B:Nat)(w:World)(lt:List Ac)(lo:List Ab)(X:Ac)(s:Ak)(t:Nat)(e:Ending)(w':World):Prop:=
 ∃(lt':List Ac) (lo':List Ab) (ta:Option Addr) (ca:Nat) (oa:Option Addr) (co:Nat) (c:Int) (tx:ByteArray),e= .returned (.tuple #[.agg #[.slice ta lt'.length ca,.slice oa lo'.length co],.int .i64 c,.string tx])/\Cg w' B (.slice ta lt'.length ca) (.slice oa lo'.length co) lt' lo'/\Below B w w'/\FI X s lt lo t c tx lt' lo'
theorem IR{B:Nat}{w w':World}{lt lt':List Ac}{lo lo':List Ab}{X:Ac}{s:Ak}{t:Nat}{e:Ending}{ta oa:Option Addr}{n m ca co:Nat}{c:Int}{tx:ByteArray}(h:e= .returned (.tuple #[.agg #[.slice ta n ca,.slice oa m co],.int .i64 c,.string tx]))(k:Cg w' B (.slice ta n ca) (.slice oa m co) lt' lo')(b:Below B w w')(a:FI X s lt lo t c tx lt' lo'):XR B w lt lo X s t e w':=by
 obtain⟨rfl,rfl⟩:=k.len;exact⟨lt',lo',ta,ca,oa,co,c,tx,h,k,b,a⟩
theorem Nj(lt:List Ac)(lo:List Ab)(g ca q co B:Nat)(w:World)(st:Cg w B (.slice (some ⟨g,0,none⟩) lt.length ca) (.slice (some ⟨q,0,none⟩) lo.length co) lt lo)(hB:B<=w.heap.size)(ok:okL lt lo=true)(t:Nat)(ht:t<lt.length)(s:Ak)(hs:∀W,Below B w W->s.at W)(so:s.ok=true)(hk:s.kind=1∨s.kind=12∨s.kind=14):Calls prog 45 #[.agg #[.slice (some ⟨g,0,none⟩) lt.length ca,.slice (some ⟨q,0,none⟩) lo.length co],.int .i64 t,.agg #[s.th,s.kind,s.id,s.to,s.cat,.string s.data,s.b1,.slice s.c1.a s.c1.n s.c1.k,s.b2,.slice s.c2.a s.c2.n s.c2.k]] w (XR B w lt lo lt[t] s t):=by
 have X:=Fy ok _ (List.getElem_mem ht);have sf:=Gl so;have sa:s.at w:=hs w (Below.refl _ _);rcases hk with hk|hk|hk
 ·refine(Tl lt lo g ca (some ⟨q,0,none⟩) co B w st hB t ht _ rfl X.small s hk X.id X.made (IX X.own)).mono ?_;rintro e w' ⟨x,c,tx,e1,k1,b1,p⟩;exact IR e1 k1 b1 (.k1 hk x rfl rfl p)
 ·refine(Qh lt lo g ca (some ⟨q,0,none⟩) co B w st hB t ht _ rfl X.small s sa hk (by have:=(Bo sf.l1).2;omega) (Bo X.l1).1 (Bo X.l2).1 (Bo sf.l1).1).mono ?_;rintro e w' ⟨x,c,e1,k1,b1,p⟩;exact IR e1 k1 b1 (.k12 hk x rfl rfl rfl p)
 ·refine(Qs lt lo g ca (some ⟨q,0,none⟩) co B w st hB t ht _ rfl X.small s hk).mono ?_;rintro e w' ⟨x,c,e1,k1,b1,p⟩;exact IR e1 k1 b1 (.k14 hk x rfl rfl rfl p)
theorem Hm{s:Ak}(sf:UJ s):((s.kind=2∨s.kind=3∨s.kind=4)->s.cat=0)/\(s.kind=5->0<=s.cat):=by
 have h:=sf.cat;unfold Mr Rb at h;constructor
 ·intro hk;by_cases e:s.cat=0
  ·exact e
  ·have e1:(s.cat==0)=false:=(by simpa using e);rw[e1]at h;rcases hk with hk|hk|hk<;>(rw[hk]at h;simp at h)
 ·intro hk;by_cases e:s.cat=0
  ·omega
  ·have e1:(s.cat==0)=false:=(by simpa using e);rw[e1,hk]at h;simp[Dv]at h;omega
theorem Qw{lt:List Ac}{lo:List Ab}(ok:okL lt lo=true):∀x∈lo,x.c1.n<=1048576/\El x.c1:=fun x hx=>by
 have h:=Bo (DU ok x hx).l1;exact⟨by have:=h.2;omega,h.1⟩
theorem WT{lt:List Ac}{lo:List Ab}(ok:okL lt lo=true):∀x∈lo,x.c2.n<=1048576/\El x.c2:=fun x hx=>by
 have h:=Bo (DU ok x hx).l2;exact⟨by have:=h.2;omega,h.1⟩
theorem JX(lt:List Ac)(lo:List Ab)(g ca q co B:Nat)(w:World)(st:Cg w B (.slice (some ⟨g,0,none⟩) lt.length ca) (.slice (some ⟨q,0,none⟩) lo.length co) lt lo)(hB:B<=w.heap.size)(ok:okL lt lo=true)(t:Nat)(ht:t<lt.length)(s:Ak)(hs:∀W,Below B w W->s.at W)(so:s.ok=true)(hk:s.kind=2∨s.kind=3∨s.kind=4∨s.kind=5):Calls prog 46 #[.agg #[.slice (some ⟨g,0,none⟩) lt.length ca,.slice (some ⟨q,0,none⟩) lo.length co],.int .i64 t,.agg #[s.th,s.kind,s.id,s.to,s.cat,.string s.data,s.b1,.slice s.c1.a s.c1.n s.c1.k,s.b2,.slice s.c2.a s.c2.n s.c2.k]] w (XR B w lt lo lt[t] s t):=by
 have X:=Fy ok _ (List.getElem_mem ht);have sf:=Gl so;have n1:=MA ok;have n2:=GM ok;refine(TE lt lo g ca q co B w st hB t ht _ rfl X.small s hs (by have:=(Bo sf.l1).2;omega) (by have:=(Bo sf.l2).2;omega) (Bo X.l1).1 (Bo X.l2).1 (Bo sf.l1).1 X.id X.made (by omega) (by omega) (Cu ok) (Qw ok) ?_).mono ?_
 ·rcases hk with h|h|h|h
  ·exact .inl ⟨.inl h,(Hm sf).1 (.inl h)⟩
  ·exact .inl ⟨.inr (.inl h),(Hm sf).1 (.inr (.inl h))⟩
  ·exact .inl ⟨.inr (.inr h),(Hm sf).1 (.inr (.inr h))⟩
  ·exact .inr ⟨h,(Hm sf).2 h⟩
 ·rintro e w' ⟨lt',lo',ob,cb,c,tx,e1,k1,b1,p⟩;exact IR e1 k1 b1 (.make hk p)
theorem XC(lt:List Ac)(lo:List Ab)(g ca q co B:Nat)(w:World)(st:Cg w B (.slice (some ⟨g,0,none⟩) lt.length ca) (.slice (some ⟨q,0,none⟩) lo.length co) lt lo)(hB:B<=w.heap.size)(ok:okL lt lo=true)(t:Nat)(ht:t<lt.length)(s:Ak)(_hs:∀W,Below B w W->s.at W)(_so:s.ok=true)(hk:s.kind=11):Calls prog 47 #[.agg #[.slice (some ⟨g,0,none⟩) lt.length ca,.slice (some ⟨q,0,none⟩) lo.length co],.int .i64 t,.agg #[s.th,s.kind,s.id,s.to,s.cat,.string s.data,s.b1,.slice s.c1.a s.c1.n s.c1.k,s.b2,.slice s.c2.a s.c2.n s.c2.k]] w (XR B w lt lo lt[t] s t):=by
 have X:=Fy ok _ (List.getElem_mem ht);have n1:=MA ok;have n2:=GM ok;refine(TZ lt lo g ca q co B w st hB t ht _ rfl X.small s (Bo X.l1).1 (by omega) (by omega) (Cu ok) (Qw ok) ok).mono ?_;rintro e w' ⟨lo',ob,cb,c,e1,k1,b1,p⟩;exact IR e1 k1 b1 (.drop hk rfl rfl p)
theorem YD(lt:List Ac)(lo:List Ab)(g ca q co B:Nat)(w:World)(st:Cg w B (.slice (some ⟨g,0,none⟩) lt.length ca) (.slice (some ⟨q,0,none⟩) lo.length co) lt lo)(hB:B<=w.heap.size)(ok:okL lt lo=true)(t:Nat)(ht:t<lt.length)(s:Ak)(hs:∀W,Below B w W->s.at W)(_so:s.ok=true)(hk:s.kind=6∨s.kind=7∨s.kind=8∨s.kind=9∨s.kind=10∨s.kind=13∨s.kind=15):Calls prog 48 #[.agg #[.slice (some ⟨g,0,none⟩) lt.length ca,.slice (some ⟨q,0,none⟩) lo.length co],.int .i64 t,.agg #[s.th,s.kind,s.id,s.to,s.cat,.string s.data,s.b1,.slice s.c1.a s.c1.n s.c1.k,s.b2,.slice s.c2.a s.c2.n s.c2.k]] w (XR B w lt lo lt[t] s t):=by
 have X:=Fy ok _ (List.getElem_mem ht);have n1:=MA ok;have n2:=GM ok;have hI:∀x∈lo,x.jA.n<=8:=fun x hx=>(Pe ok x hx).1;have hW:∀x∈lo,x.own.n<=10:=fun x hx=>IX (DU ok x hx).own;have hx:=IX X.own;refine(VB lt lo g ca q co B w st hB t ht _ rfl X.small s hs (Bo X.l1).1 (by omega) (by omega) (Cu ok) (Qw ok) (fun x hx=>by have:=hI x hx;omega) (by omega) (Jp ok) (WT ok) (fun x hx=>by have:=hW x hx;omega) (by omega) hk).mono ?_;rintro e w' ⟨lt',lo',c,tx,e1,k1,b1,p⟩;refine IR e1 k1 b1 ?_;cases p with
 |no h hc ht e1 e2=>
  rcases hk with hk|hk|hk|hk|hk|hk|hk
  ·exact .k6 hk (.inl ⟨by rw[hk]at h;exact h,hc,ht,e1,e2⟩)
  ·exact .k7 hk (.inl ⟨by rw[hk]at h;exact h,hc,ht,e1,e2⟩)
  ·exact .k8 hk (.inl ⟨by rw[hk]at h;exact h,hc,ht,e1,e2⟩)
  ·exact .k9 hk (.inl ⟨by rw[hk]at h;exact h,hc,ht,e1,e2⟩)
  ·exact .k10 hk (.inl ⟨by rw[hk]at h;exact h,hc,ht,e1,e2⟩)
  ·exact .k13 hk (.inl ⟨by rw[hk]at h;exact h,hc,ht,e1,e2⟩)
  ·exact .k15 hk (.inl ⟨by rw[hk]at h;exact h,hc,ht,e1,e2⟩)
 |k6 h p=>exact .k6 h p
 |k7 h p=>exact .k7 h p
 |k8 h p=>exact .k8 h p
 |k9 h p=>exact .k9 h p
 |k10 h p=>exact .k10 h p
 |k13 h p=>exact .k13 h p
 |k15 h p=>exact .k15 h p
open Go.Shelf
theorem JG{b:Int}{c:Al}{o:Av}{b':Int}{c':Al}{W:World}(hc:c.at W)(ho:o.at W)(hc':c'.at W)(l1:AX b c.n c.f c.g=true)(l2:BK o.n o.h=true)(l3:AX b' c'.n c'.f c'.g=true):
 Calls prog 143 #[.agg #[.int .i64 b,.slice c.a c.n c.k],.slice o.a o.n o.k,.agg #[.int .i64 b',.slice c'.a c'.n c'.k]] W fun e w'=>e= .returned (.bool (Dx b c o b' c'))/\Below W W w':=by
 have h:=GV b c.a c.n c.k c.f c.g o.a o.n o.k o.h b' c'.a c'.n c'.k c'.f c'.g W hc.1 hc'.1 ho.1 hc.2 hc'.2 ho.2;refine h.mono ?_;rintro e w' ⟨rfl,hb⟩;refine⟨?_,hb⟩;unfold Dx Cv;simp[l1,l2,l3]
theorem RV{X:Ac}(h:Mb X):Df X.id X.made X.b1 X.c1.n X.c1.f X.c1.g X.b2 X.c2.n X.c2.f X.c2.g X.own.n X.own.h=true:=Is.2 h
theorem ak{X:Ac}{b:Int}{c:Al}{W:World}(hX:X.at W)(hc:c.at W)(hF:Mb X)(l:AX b c.n c.f c.g=true):
 Calls prog 147 #[.agg #[X.id,X.b1,.slice X.c1.a X.c1.n X.c1.k,X.b2,.slice X.c2.a X.c2.n X.c2.k,.slice X.own.a X.own.n X.own.k,X.made],.agg #[.int .i64 b,.slice c.a c.n c.k]] W fun e w'=>e= .returned (.bool (GI X b c))/\Below W W w':=by
 refine(J9 X.id X.made X.b1 X.c1.a X.c1.n X.c1.k X.c1.f X.c1.g X.b2 X.c2.a X.c2.n X.c2.k X.c2.f X.c2.g X.own.a X.own.n X.own.k X.own.h b c.a c.n c.k c.f c.g W hX.1.1 hX.2.1.1 hX.2.2.1 hX.1.2 hX.2.1.2 hX.2.2.2 hc.1 hc.2).mono ?_;rintro e w' ⟨rfl,hb⟩;refine⟨?_,hb⟩;unfold La GI;rw[RV hF,l];simp
theorem Vj{X:Ac}{b:Int}{c:Al}{W:World}(hX:X.at W)(hc:c.at W)(hF:Mb X)(l:AX b c.n c.f c.g=true):
 Calls prog 139 #[.agg #[X.id,X.b1,.slice X.c1.a X.c1.n X.c1.k,X.b2,.slice X.c2.a X.c2.n X.c2.k,.slice X.own.a X.own.n X.own.k,X.made],.agg #[.int .i64 b,.slice c.a c.n c.k]] W fun e w'=>e= .returned (.bool (Ap X b c))/\Below W W w':=by
 refine(LU X.id X.made X.b1 X.c1.a X.c1.n X.c1.k X.c1.f X.c1.g X.b2 X.c2.a X.c2.n X.c2.k X.c2.f X.c2.g X.own.a X.own.n X.own.k X.own.h b c.a c.n c.k c.f c.g W hX.1.1 hX.2.1.1 hX.2.2.1 hX.1.2 hX.2.1.2 hX.2.2.2 hc.1 hc.2).mono ?_;rintro e w' ⟨rfl,hb⟩;refine⟨?_,hb⟩;unfold Jr La MX Ap GI;rw[RV hF,l];simp
theorem X1{n:Nat}{h:Nat->Int}(e:BK n h=true):∀i j,i<j->j<n->h i<h j:=by
 obtain⟨_,ha⟩:=UV e;have one:∀j,0<j->j<n->h (j-1)<h j:=fun j h0 hj=>by
  have:=ha j hj;unfold Dl at this;simp only[Bool.and_eq_true,Bool.or_eq_true,beq_iff_eq,decide_eq_true_eq]at this;rcases this.2 with h|h
  ·omega
  ·exact h
 intro i j hij hj;induction j with
 |zero=>omega
 |succ j ih=>
  have h1:=one (j+1) (by omega) hj;simp only[Nat.add_sub_cancel]at h1;by_cases e:i=j
  ·subst e;exact h1
  ·have:=ih (by omega) (by omega);omega
theorem Rp{n:Nat}{h:Nat->Int}(e:BK n h=true):((List.range n).map h).Pairwise (· <·):=by
 rw[List.pairwise_iff_getElem];intro i j hi hj hij;simp only[List.length_map,List.length_range]at hi hj;simpa using X1 e i j hij hj
structure Env(E:Nat->Addr)(w:World)(B P:Nat)(s:Ak)(g ca q co:Nat)(lt:List Ac)(lo:List Ab)(t c C:Nat)(nb:Nat->Nat)(kv:Nat->Value)(K:Nat->List Int)(X:Ac):Prop where
 h:DX w B P s g ca q co lt lo t (.map (some c))
 n:Dj w C c lo.length (fun i=>(Aa lo i).id) q 0 nb kv K
 e:Jj w E
 h14:14<=B
 hB:B<=w.heap.size
 ht:t<lt.length
 hX:X=lt[t]
 hs:∀W,Below B w W->s.at W
 so:s.ok=true
 ok:okL lt lo=true
 tab:P8 w
 kid:∀u,u<lo.length->K u=IW (Aa lo) (Aa lo u).id lo.length
 ti:JO lo
theorem Mo{x:Int}(h:0<=x/\x<=1000000):(Lit.int .i64 x).wf=true:=by
 have e1:IntKind.i64.min= -9223372036854775808:=by decide
 have e2:IntKind.i64.max=9223372036854775807:=by decide
 simp only[Lit.wf,Bool.and_eq_true,decide_eq_true_eq,e1,e2];omega
theorem Fc{lo:List Ab}{u:Nat}(h:u<lo.length):Aa lo u∈lo:=by rw[AM h];exact List.getElem_mem h
section
variable {E:Nat->Addr}{w W:World}{B P:Nat}{s:Ak}{g ca q co:Nat}{lt:List Ac}{lo:List Ab}{t c C:Nat}{nb:Nat->Nat}{kv:Nat->Value}{K:Nat->List Int}{X:Ac}
theorem P8.low{w w':World}(h:P8 w)(hb:Below w w w'):P8 w':=h.below hb
theorem Env.below(v:Env E w B P s g ca q co lt lo t c C nb kv K X)(hb:Below w w W):Env E W B P s g ca q co lt lo t c C nb kv K X:=
 ⟨v.h.below hb,v.n.below hb,v.e.below v.h14 (hb.mono v.hB),v.h14,Nat.le_trans v.hB hb.size,v.ht,v.hX,fun W' hW=>v.hs W' ((hb.mono v.hB).trans hW),v.so,v.ok,v.tab.below hb,v.kid,v.ti⟩
theorem Env.thr(v:Env E w B P s g ca q co lt lo t c C nb kv K X):Mb X:=by rw[v.hX];exact Fy v.ok _ (List.getElem_mem v.ht)
theorem Env.xat(v:Env E w B P s g ca q co lt lo t c C nb kv K X):X.at w:=by rw[v.hX];exact(v.h.st.tn _ (List.getElem_mem v.ht)).at
theorem Env.oat(v:Env E w B P s g ca q co lt lo t c C nb kv K X){u:Nat}(hu:u<lo.length):(Aa lo u).at w:=by
 rw[AM hu];exact⟨(v.h.st.on _ (List.getElem_mem hu)).1.1,(v.h.st.on _ (List.getElem_mem hu)).2.1.1,(v.h.st.on _ (List.getElem_mem hu)).2.2.1.1,(v.h.st.on _ (List.getElem_mem hu)).2.2.2.1,Cu v.ok _ (List.getElem_mem hu)⟩
theorem Env.obj(v:Env E w B P s g ca q co lt lo t c C nb kv K X){u:Nat}(hu:u<lo.length):Ml (Aa lo u):=DU v.ok _ (Fc hu)
theorem Env.changes(v:Env E w B P s g ca q co lt lo t c C nb kv K X)(p:Nat)(hp:p<lo.length)(W:World)(hb:Below w w W):
 Calls prog 139 #[.agg #[X.id,X.b1,.slice X.c1.a X.c1.n X.c1.k,X.b2,.slice X.c2.a X.c2.n X.c2.k,.slice X.own.a X.own.n X.own.k,X.made],.agg #[.int .i64 (Aa lo p).b1,.slice (Aa lo p).c1.a (Aa lo p).c1.n (Aa lo p).c1.k]] W fun e w'=>e= .returned (.bool (Ap X (Aa lo p).b1 (Aa lo p).c1))/\Below W W w':=
 Vj (v.xat.below hb) ((v.oat hp).1.below hb) v.thr (v.obj hp).l1
theorem Env.sees(v:Env E w B P s g ca q co lt lo t c C nb kv K X)(p:Nat)(hp:p<lo.length)(W:World)(hb:Below w w W):
 Calls prog 147 #[.agg #[X.id,X.b1,.slice X.c1.a X.c1.n X.c1.k,X.b2,.slice X.c2.a X.c2.n X.c2.k,.slice X.own.a X.own.n X.own.k,X.made],.agg #[.int .i64 (Aa lo p).b1,.slice (Aa lo p).c1.a (Aa lo p).c1.n (Aa lo p).c1.k]] W fun e w'=>e= .returned (.bool (GI X (Aa lo p).b1 (Aa lo p).c1))/\Below W W w':=
 ak (v.xat.below hb) ((v.oat hp).1.below hb) v.thr (v.obj hp).l1
theorem bE{s:Ak}(so:s.ok=true):(Lit.int .i64 s.to).wf=true:=by
 refine Mo ?_;unfold Ak.ok GU Eg at so;simp only[Bool.and_eq_true]at so;obtain⟨⟨_,h⟩,_⟩:=so;unfold Lr at h;split at h
 ·simp only[DL]at h;omega
 ·have:=beq_iff_eq.1 h;omega
theorem bN{s:Ak}(sf:UJ s):(Lit.int .i64 s.id).wf=true:=by
 refine Mo ?_;have h:=sf.id;unfold Lr at h;split at h
 ·simp only[DL]at h;omega
 ·have:=beq_iff_eq.1 h;omega
end
open Go.BigFrame
def Lu(X:Ac)(s:Ak)(lo:List Ab)(c:Int):Prop:=(c=4/\Fl X s lo=false)∨(c=5/\Fl X s lo=true/\X.made=30)∨(c=0/\Fl X s lo=true/\X.made≠30)
theorem KQ{X:Ac}{s:Ak}{lo:List Ab}(h:Fl X s lo=false):Lu X s lo 4:= .inl ⟨rfl,h⟩
theorem Er{X:Ac}{s:Ak}{lo:List Ab}{u:Nat}(h:Gw lo s.id=some u):Fl X s lo=(decide ((Aa lo u).kind=3)&&Ap X (Aa lo u).b1 (Aa lo u).c1&&Dx X.b1 X.c1 X.own s.b1 s.c1&&Dx s.b1 s.c1 X.own X.b2 X.c2&&(!decide (0<s.cat)||hasB X.own.n X.own.h s.cat)):=by
 unfold Fl;rw[h]
theorem IK(w:World)(A B:Obj):Ah ((w.alloc A).alloc B).drew w A/\Ah ((w.alloc A).alloc B).drew (w.heap.size+1) B/\Below w w ((w.alloc A).alloc B).drew:=
 ⟨(Ah.new w A).alloc B,by have h:=Ah.new (w.alloc A) B;rw[show(w.alloc A).heap.size=w.heap.size+1 from by simp]at h;exact h,(((Below.refl _ w).alloc (Nat.le_refl _) _).alloc (by simp) _).drew⟩
section
variable {E:Nat->Addr}{w:World}{B P:Nat}{s:Ak}{g ca q co:Nat}{lt:List Ac}{lo:List Ab}{t c C:Nat}{nb:Nat->Nat}{kv:Nat->Value}{K:Nat->List Int}{X:Ac}
theorem Sb(v:Env E w B P s g ca q co lt lo t c C nb kv K X)(hcat:0<=s.cat):
 Calls prog 133 #[.pointer (some ⟨P,0,none⟩)] w fun e w'=>∃r,e= .returned r/\Below w w w'/\∃c',Told w' B E r c'/\Lu X s lo c':=by
 have VV:=hid v;have CW:=(v.h.st.jJ v.ht).1;have gl:=(v.h.st.jJ v.ht).2;rw[<-v.hX]at CW;obtain⟨⟨s0,s1,s2,s3,s4,s5,s6,s7,s8,s9⟩,_,_,c12,_⟩:=Ah.work (show Ah w.drew P _ from v.h.wk);have pl:P<w.heap.size:=v.h.wk.lt;have q0:w.drew.cell? ⟨g,t*7,none⟩=some (.int .i64 X.id):=CW.c0;have q1:w.drew.cell? ⟨g,t*7+1,none⟩=some (.int .i64 X.b1):=CW.c1;have q2:w.drew.cell? ⟨g,t*7+2,none⟩=some (.slice X.c1.a X.c1.n X.c1.k):=CW.c2;have q3:w.drew.cell? ⟨g,t*7+3,none⟩=some (.int .i64 X.b2):=CW.c3;have q4:w.drew.cell? ⟨g,t*7+4,none⟩=some (.slice X.c2.a X.c2.n X.c2.k):=CW.c4;have q5:w.drew.cell? ⟨g,t*7+5,none⟩=some (.slice X.own.a X.own.n X.own.k):=CW.c5;have q6:w.drew.cell? ⟨g,t*7+6,none⟩=some (.int .i64 X.made):=CW.c6;obtain⟨⟨k0,k1,k2,k3,k4,k5,k6,k7,k8,k9⟩,_,_,v12,_⟩:=v.h.wk.work;have p0:w.cell? ⟨g,t*7,none⟩=some (.int .i64 X.id):=CW.c0;have p1:w.cell? ⟨g,t*7+1,none⟩=some (.int .i64 X.b1):=CW.c1;have p2:w.cell? ⟨g,t*7+2,none⟩=some (.slice X.c1.a X.c1.n X.c1.k):=CW.c2;have p3:w.cell? ⟨g,t*7+3,none⟩=some (.int .i64 X.b2):=CW.c3;have p4:w.cell? ⟨g,t*7+4,none⟩=some (.slice X.c2.a X.c2.n X.c2.k):=CW.c4;have p5:w.cell? ⟨g,t*7+5,none⟩=some (.slice X.own.a X.own.n X.own.k):=CW.c5;have p6:w.cell? ⟨g,t*7+6,none⟩=some (.int .i64 X.made):=CW.c6;have n1:¬P=w.heap.size:=by omega
 have n2:¬P=w.heap.size+1:=by omega
 have n3:¬g=w.heap.size:=by omega
 have n4:¬g=w.heap.size+1:=by omega
 have HC:=hid hcat;clear v CW hcat;go_enter func133,ntmps133
 go_upto_region 1 with fail
 go_cut[3,4] from 5 (fun a b w1=>∃p r,a= .pointer (some ⟨p,0,none⟩)/\b= .pointer (some ⟨r,0,none⟩)/\Ah w1 p (.cells #[s.th,s.kind,s.id,s.to,s.cat,.string s.data,s.b1,.slice s.c1.a s.c1.n s.c1.k,s.b2,.slice s.c2.a s.c2.n s.c2.k] 44)/\Ah w1 r (.cells #[X.id,X.b1,.slice X.c1.a X.c1.n X.c1.k,X.b2,.slice X.c2.a X.c2.n X.c2.k,.slice X.own.a X.own.n X.own.k,X.made] 86)/\Below w w w1)
 case first=>
  go_region_law fail
  all_goals(
   go_wp2_with fail
   go_meet;case rel=>first|exact⟨_,_,rfl,rfl,(IK w _ _).1,(IK w _ _).2.1,(IK w _ _).2.2⟩|exact⟨_,_,rfl,rfl,(IK w _ _).2.1,(IK w _ _).1,(IK w _ _).2.2⟩)
 case rest=>
  obtain⟨p,r,rfl,rfl,AP,AR,hb⟩:=hcut;generalize wc=w1 at *;have A1:=hid hb;have SP:=hid AP;have TR:=hid AR;clear hb AP AR s0 s1 s2 s3 s4 s5 s6 s7 s8 s9 c12 q0 q1 q2 q3 q4 q5 q6 k0 k1 k2 k3 k4 k5 k6 k7 k8 k9 v12 p0 p1 p2 p3 p4 p5 p6 n1 n2 n3 n4 pl gl;have V1:=VV.out.below A1.out;have THH:=hid (Ic w1 B P s g ca q co lt lo t c C lo.length _ nb kv K V1.h V1.n (Nat.le_refl _) (Cu V1.ok) s.id (bN (Gl V1.so)));clear V1;obtain⟨x0,x1,x2,x3,x4,x5,x6,x7,x8,x9⟩:=SP.out.jE;go_wp2_with fail
  refine THH.out.mono ?_;rintro e w2 ⟨hr,b2⟩;have B2:=hid b2;have A2:=hid (Ae A1 b2);clear THH b2 x0 x1 x2 x3 x4 x5 x6 x7 x8 x9;rcases hr with⟨hf,rfl⟩|⟨u,hf,rfl⟩
  ·have MP:Hid (Lu X s lo 4):=hid (KQ (by unfold Fl;rw[show Gw lo s.id=none from hf]));clear hf;have a0:=Yu 197 w2;have A3:=hid (Ae A2 ((Below.refl _ w2).alloc (Nat.le_refl _) (.cells #[.pointer none] 207)));have e9:=((VV.out.below A3).e 6 (by omega) (by omega)).1;have sz:=(VV.out.below A3).hB;go_wp2_with fail
   refine(Bi 290 (.pointer (some (E 6))) _).mono ?_;rintro e w9 ⟨rfl,rfl⟩;go_wp2;go_ret;have b3:=Ae A3 ((Below.refl _ _).alloc (Nat.le_refl _) (.cells #[.int .i64 4,.iface 290 (.pointer (some (E 6)))] 68));exact⟨_,rfl,b3,4,BJ _ E sz 4 (by decide) 6 (by decide) (by decide) (by decide) (by first|rfl|simp),MP⟩
  ·obtain⟨ul,_⟩:=AE hf;have HF:Hid (Gw lo s.id=some u):=hid hf;clear hf;by_cases h3:(Aa lo u).kind=3;rotate_left
   ·have MP:Hid (Lu X s lo 4):=hid (KQ (by rw[Er HF.out];simp[h3]));have hT:DJ (Aa lo u).kind≠207:=by
     unfold DJ;split
     ·decide
     ·split
      ·decide
      ·first|decide|(rw[if_neg h3];decide)
    generalize DJ (Aa lo u).kind=T at hT ⊢;have a0:=XO 197 T (.agg #[.pointer (some ⟨q,u*10,none⟩)]) w2 hT;have A3:=hid (Ae A2 ((Below.refl _ w2).alloc (Nat.le_refl _) (.cells #[.pointer none] 207)));clear hT h3;have e9:=((VV.out.below A3).e 6 (by omega) (by omega)).1;have sz:=(VV.out.below A3).hB;go_wp2_with fail
    refine(Bi 290 (.pointer (some (E 6))) _).mono ?_;rintro e w9 ⟨rfl,rfl⟩;go_wp2;go_ret;have b3:=Ae A3 ((Below.refl _ _).alloc (Nat.le_refl _) (.cells #[.int .i64 4,.iface 290 (.pointer (some (E 6)))] 68));exact⟨_,rfl,b3,4,BJ _ E sz 4 (by decide) 6 (by decide) (by decide) (by decide) (by first|rfl|simp),MP⟩
   have ty:DJ (Aa lo u).kind=207:=(by rw[h3];rfl);rw[ty];have H3:=hid h3;clear ty h3;have n7:Na #[.pointer (some ⟨q,u*10,none⟩)]:=⟨⟩;have a0:=UC 197 (.agg n7) w2;have n5:Nw (w2.alloc (.cells n7 207)):=⟨⟩;have b3:Below w2 w2 n5:=(Below.refl _ w2).alloc (Nat.le_refl _) _;have A3:=hid (Ae A2 b3);have d0:(n5:World).cell? ⟨w2,0,none⟩=some (.pointer (some ⟨q,u*10,none⟩)):=(by go_simp);have B3:=hid (Ae B2 b3);clear b3;have n6:Na #[X.id,X.b1,.slice X.c1.a X.c1.n X.c1.k,X.b2,.slice X.c2.a X.c2.n X.c2.k,.slice X.own.a X.own.n X.own.k,X.made]:=⟨⟩;have BS:Hid (∀W,Below (n5:World).heap.size n5 W->Ah W p (.cells #[s.th,s.kind,s.id,s.to,s.cat,.string s.data,s.b1,.slice s.c1.a s.c1.n s.c1.k,s.b2,.slice s.c2.a s.c2.n s.c2.k] 44)/\Ah W r (.cells n6 86)):=hid (fun W hW=>⟨SP.out.below (Ae B3 hW),TR.out.below (Ae B3 hW)⟩);have BY:Hid (∀W,Below (n5:World).heap.size n5 W->Ah W r (.cells n6 86)/\W.cell? ⟨w2,0,none⟩=some (.pointer (some ⟨q,u*10,none⟩))):=hid (fun W hW=>⟨(BS W hW).2,(hW.cell (p:=⟨w2,0,none⟩) (by simp)).trans d0⟩);go_upto_region 5 with fail
   clear a0 d0;have EL:Hid (∀args w,(callFunc 160 args).run prog w= .ok (.enter 160 args) w):=hid (enters_of func160 (by kernel_rfl) rfl);have EC:Hid (∀args w,(callFunc 139 args).run prog w= .ok (.enter 139 args) w):=hid (enters_of func139 (by kernel_rfl) rfl);have D0:=hid (Below.refl (n5:World).heap.size n5).drew;have PL:Hid (Calls prog 160 #[.agg n7] (n5:World).drew fun e w'=>∃v,e= .returned v/\(v= .agg #[.int .i64 (Aa lo u).b1,.slice (Aa lo u).c1.a (Aa lo u).c1.n (Aa lo u).c1.k]/\Below (n5:World).drew.heap.size (n5:World).drew w')):=hid (by
    have V:=VV.out.below (Ae A3 D0);obtain⟨CO,ql⟩:=V.h.st.jF ul (Cu V.ok);rw[<-AM ul]at CO;exact(KG q (u*10) (Aa lo u).b1 (Aa lo u).c1 _ ql CO.c3 CO.c4).mono fun _ _ h=>⟨_,h.1,rfl,h.2⟩)
   refine Am 7 (fun W=>Below (n5:World).heap.size n5 W) (by kernel_rfl) ?_;refine tq 0 31 (.agg n6) D0 ?_ (hy:=fun W h=>by obtain⟨y0,y1,y2,y3,y4,y5,y6⟩:=(BY W h).1.seven;go_simp);simp only[ap,List.set];refine tq 1 32 (.pointer (some ⟨w2,0,none⟩)) D0 ?_;simp only[ap,List.set];refine tq 2 33 (.agg n7) D0 ?_ (hy:=fun W h=>by have y:=(BY W h).2;go_simp);simp only[ap,List.set];refine Af (i:=3) (by kernel_rfl) rfl ?_;intro K hK;refine Az (by rfl) 160 _ _ (by rfl) EL _ (by rfl) (some 34) (by rfl) _ PL ?_;rintro v w3 ⟨rfl,b3⟩;have V2:=hid (Ae D0 b3);refine hK _ _ (fun _=>V2) ?_;clear hK K b3;simp only[ap,List.set];have PS:=hid (Dm (VV.out.changes u ul _ (Ae A3 V2)));refine Af (i:=4) (by kernel_rfl) rfl ?_;intro K hK;refine Bb (by rfl) 139 _ _ _ (by rfl) EC _ _ (by rfl) (by rfl) (some 35) (by rfl) _ PS ?_;rintro v w4 ⟨rfl,b4⟩;have V3:=hid (Ae V2 b4);refine hK _ _ (fun _=>V3) ?_;clear hK K b4 PS;simp only[ap,List.set];refine tq 5 36 (.bool (!Ap X (Aa lo u).b1 (Aa lo u).c1)) V3 ?_;simp only[ap,List.set];refine tq 6 30 (.bool (!Ap X (Aa lo u).b1 (Aa lo u).c1)) V3 ?_;simp only[ap,List.set];refine Aj (by kernel_rfl) ?_ _;have A4:=hid (Ae A3 V3);cases hc:Ap X (Aa lo u).b1 (Aa lo u).c1 with
   |false=>
    have MP:Hid (Lu X s lo 4):=hid (KQ (by rw[Er HF.out,hc];simp));clear hc;have e9:=((VV.out.below A4).e 8 (by omega) (by omega)).1;have sz:=(VV.out.below A4).hB;go_wp2_with fail
    refine(Bi 290 (.pointer (some (E 8))) _).mono ?_;rintro e w9 ⟨rfl,rfl⟩;go_wp2;go_ret;have b3:=Ae A4 ((Below.refl _ _).alloc (Nat.le_refl _) (.cells #[.int .i64 4,.iface 290 (.pointer (some (E 8)))] 68));exact⟨_,rfl,b3,4,BJ _ E sz 4 (by decide) 8 (by decide) (by decide) (by decide) (by first|rfl|simp),MP⟩
   |true=>
    have HCh:=hid hc;clear hc;obtain⟨x0,x1,x2,x3,x4,x5,x6,x7,x8,x9⟩:=(BS _ V3).1.jE;obtain⟨y0,y1,y2,y3,y4,y5,y6⟩:=(BS _ V3).2.seven;have V4:=VV.out.below A4.out;have sa:=V4.hs _ (Below.refl _ _);have sf:=Gl V4.so;have F1:=hid (JG (V4.xat).1 (V4.xat).2.2 sa.1 V4.thr.l1 V4.thr.own sf.l1);clear V4 sa;go_wp2_with fail
    refine F1.out.mono ?_;rintro e w5 ⟨rfl,b5⟩;have A5:=hid (Ae A4 b5);have V5:=hid (Ae V3 b5);clear b5 F1 x0 x1 x2 x3 x4 x5 x6 x7 x8 x9 y0 y1 y2 y3 y4 y5 y6;cases h1:Dx X.b1 X.c1 X.own s.b1 s.c1 with
    |false=>
     have MP:Hid (Lu X s lo 4):=hid (KQ (by rw[Er HF.out,h1];simp));clear h1;have e9:=((VV.out.below A5).e 9 (by omega) (by omega)).1;have sz:=(VV.out.below A5).hB;go_wp2_with fail
     refine(Bi 290 (.pointer (some (E 9))) _).mono ?_;rintro e w9 ⟨rfl,rfl⟩;go_wp2;go_ret;have b3:=Ae A5 ((Below.refl _ _).alloc (Nat.le_refl _) (.cells #[.int .i64 4,.iface 290 (.pointer (some (E 9)))] 68));exact⟨_,rfl,b3,4,BJ _ E sz 4 (by decide) 9 (by decide) (by decide) (by decide) (by first|rfl|simp),MP⟩
    |true=>
     have HF1:=hid h1;clear h1;obtain⟨x0,x1,x2,x3,x4,x5,x6,x7,x8,x9⟩:=(BS _ V5).1.jE;obtain⟨y0,y1,y2,y3,y4,y5,y6⟩:=(BS _ V5).2.seven;have V4:=VV.out.below A5.out;have sa:=V4.hs _ (Below.refl _ _);have F1:=hid (JG sa.1 (V4.xat).2.2 (V4.xat).2.1 sf.l1 V4.thr.own V4.thr.l2);clear V4 sa;go_wp2_with fail
     refine F1.out.mono ?_;rintro e w6 ⟨rfl,b6⟩;have A6:=hid (Ae A5 b6);have V6:=hid (Ae V5 b6);clear b6 F1 x0 x1 x2 x3 x4 x5 x6 x7 x8 x9 y0 y1 y2 y3 y4 y5 y6;cases h2:Dx s.b1 s.c1 X.own X.b2 X.c2 with
     |false=>
      have MP:Hid (Lu X s lo 4):=hid (KQ (by rw[Er HF.out,h2];simp));clear h2;have e9:=((VV.out.below A6).e 9 (by omega) (by omega)).1;have sz:=(VV.out.below A6).hB;go_wp2_with fail
      refine(Bi 290 (.pointer (some (E 9))) _).mono ?_;rintro e w9 ⟨rfl,rfl⟩;go_wp2;go_ret;have b3:=Ae A6 ((Below.refl _ _).alloc (Nat.le_refl _) (.cells #[.int .i64 4,.iface 290 (.pointer (some (E 9)))] 68));exact⟨_,rfl,b3,4,BJ _ E sz 4 (by decide) 9 (by decide) (by decide) (by decide) (by first|rfl|simp),MP⟩
     |true=>
      have HF2:=hid h2;clear h2;obtain⟨x0,x1,x2,x3,x4,x5,x6,x7,x8,x9⟩:=(BS _ V6).1.jE;obtain⟨y0,y1,y2,y3,y4,y5,y6⟩:=(BS _ V6).2.seven;by_cases hz:s.cat=0
      ·have z1:(s.cat != 0)=false:=(by simp[hz]);have MB:Hid (Fl X s lo=true):=hid (by rw[Er HF.out,H3.out,HCh.out,HF1.out,HF2.out,hz];simp);by_cases hm:X.made=30
       ·rw[hm]at y6;have MP:Hid (Lu X s lo 5):=hid (.inr (.inl ⟨rfl,MB,hm⟩));clear hm;have e9:=((VV.out.below A6).e 4 (by omega) (by omega)).1;have sz:=(VV.out.below A6).hB;go_wp2_with fail
        refine(Cl 5 290 (.pointer (some (E 4))) _).mono ?_;rintro e w9 ⟨rfl,rfl⟩;go_wp2;go_ret;have b3:=Ae A6 ((Below.refl _ _).alloc (Nat.le_refl _) (.cells #[.int .i64 5,.iface 290 (.pointer (some (E 4)))] 68));exact⟨_,rfl,b3,5,BJ _ E sz 5 (by decide) 4 (by decide) (by decide) (by decide) (by first|rfl|simp),MP⟩
       ·have m1:(X.made==30)=false:=(by simp[hm]);have MP:Hid (Lu X s lo 0):=hid (.inr (.inr ⟨rfl,MB,hm⟩));go_wp2;go_ret;exact⟨_,rfl,A6,0,.inl ⟨rfl,rfl⟩,MP⟩
      ·have z1:(s.cat != 0)=true:=(by simp[hz]);have z2:(s.cat==0)=false:=(by simp[hz]);have zp:0<s.cat:=(by have:=HC.out;omega);have ZP:=hid zp;have V4:=VV.out.below A6.out;have CT:=hid (Hq X.own.a X.own.n X.own.k X.own.h s.cat w6 V4.xat.2.2.1 V4.xat.2.2.2);clear V4 zp;go_wp2_with fail
       refine CT.out.mono ?_;rintro e w7 ⟨rfl,rfl⟩;clear CT;cases h5:hasB X.own.n X.own.h s.cat with
       |false=>
        have MP:Hid (Lu X s lo 4):=hid (KQ (by rw[Er HF.out,h5];simp[ZP.out]));clear h5 x0 x1 x2 x3 x4 x5 x6 x7 x8 x9 y0 y1 y2 y3 y4 y5 y6;have e9:=((VV.out.below A6).e 10 (by omega) (by omega)).1;have sz:=(VV.out.below A6).hB;go_wp2_with fail
        refine(Bi 290 (.pointer (some (E 10))) _).mono ?_;rintro e w9 ⟨rfl,rfl⟩;go_wp2;go_ret;have b3:=Ae A6 ((Below.refl _ _).alloc (Nat.le_refl _) (.cells #[.int .i64 4,.iface 290 (.pointer (some (E 10)))] 68));exact⟨_,rfl,b3,4,BJ _ E sz 4 (by decide) 10 (by decide) (by decide) (by decide) (by first|rfl|simp),MP⟩
       |true=>
        have MB:Hid (Fl X s lo=true):=hid (by rw[Er HF.out,H3.out,HCh.out,HF1.out,HF2.out,h5];simp);clear h5;by_cases hm:X.made=30
        ·rw[hm]at y6;have MP:Hid (Lu X s lo 5):=hid (.inr (.inl ⟨rfl,MB,hm⟩));clear hm;have e9:=((VV.out.below A6).e 4 (by omega) (by omega)).1;have sz:=(VV.out.below A6).hB;go_wp2_with fail
         refine(Cl 5 290 (.pointer (some (E 4))) _).mono ?_;rintro e w9 ⟨rfl,rfl⟩;go_wp2;go_ret;have b3:=Ae A6 ((Below.refl _ _).alloc (Nat.le_refl _) (.cells #[.int .i64 5,.iface 290 (.pointer (some (E 4)))] 68));exact⟨_,rfl,b3,5,BJ _ E sz 5 (by decide) 4 (by decide) (by decide) (by decide) (by first|rfl|simp),MP⟩
        ·have m1:(X.made==30)=false:=(by simp[hm]);have MP:Hid (Lu X s lo 0):=hid (.inr (.inr ⟨rfl,MB,hm⟩));go_wp2;go_ret;exact⟨_,rfl,A6,0,.inl ⟨rfl,rfl⟩,MP⟩
end
theorem AI.store{w:World}{B q co n:Nat}{l:List Ab}(h:w.ownsRow B 88 10 (.slice (some ⟨q,0,none⟩) n co) n (Aw l)){i:Nat}(hi:i<l.length)(v:Ab):
 ((((((((((w.setCell ⟨q,i*10,none⟩ (.int .i64 v.id)).setCell ⟨q,i*10+1,none⟩ (.int .i64 v.kind)).setCell ⟨q,i*10+2,none⟩ (.int .i64 v.up)).setCell ⟨q,i*10+3,none⟩ (.int .i64 v.b1)).setCell ⟨q,i*10+4,none⟩ (.slice v.c1.a v.c1.n v.c1.k)).setCell ⟨q,i*10+5,none⟩ (.string v.data)).setCell ⟨q,i*10+6,none⟩ (.slice v.jA.a v.jA.n v.jA.k)).setCell ⟨q,i*10+7,none⟩ (.slice v.own.a v.own.n v.own.k)).setCell ⟨q,i*10+8,none⟩ (.int .i64 v.b2)).setCell ⟨q,i*10+9,none⟩ (.slice v.c2.a v.c2.n v.c2.k)).ownsRow B 88 10 (.slice (some ⟨q,0,none⟩) n co) n (Aw (l.set i v)):=by
 obtain⟨o,ho⟩:∃o,o=l[i]:=⟨_,rfl⟩;have e0:=Ct (f:=Ab.cs) Ab.jK (l:=l) (t:=i) (x:=(⟨v.id,o.kind,o.up,o.b1,o.c1,o.data,o.jA,o.own,o.b2,o.c2⟩:Ab)) (u:= .int .i64 v.id) (i:=0) (by exact hi) (by omega) (by rw[<-ho];rfl);have h0:=(World.ownsRow.stored h (i*10+0) (.int .i64 v.id)).1;rw[show Aw l=((l).map Ab.cs).flatten from rfl,e0]at h0;have e1:=Ct (f:=Ab.cs) Ab.jK (l:=(l.set i ⟨v.id,o.kind,o.up,o.b1,o.c1,o.data,o.jA,o.own,o.b2,o.c2⟩)) (t:=i) (x:=(⟨v.id,v.kind,o.up,o.b1,o.c1,o.data,o.jA,o.own,o.b2,o.c2⟩:Ab)) (u:= .int .i64 v.kind) (i:=1) (by rw[List.length_set];exact hi) (by omega) (by simp only[List.getElem_set_self];rfl);rw[List.set_set]at e1;have h1:=(World.ownsRow.stored h0 (i*10+1) (.int .i64 v.kind)).1;rw[e1]at h1;have e2:=Ct (f:=Ab.cs) Ab.jK (l:=(l.set i ⟨v.id,v.kind,o.up,o.b1,o.c1,o.data,o.jA,o.own,o.b2,o.c2⟩)) (t:=i) (x:=(⟨v.id,v.kind,v.up,o.b1,o.c1,o.data,o.jA,o.own,o.b2,o.c2⟩:Ab)) (u:= .int .i64 v.up) (i:=2) (by rw[List.length_set];exact hi) (by omega) (by simp only[List.getElem_set_self];rfl);rw[List.set_set]at e2;have h2:=(World.ownsRow.stored h1 (i*10+2) (.int .i64 v.up)).1;rw[e2]at h2;have e3:=Ct (f:=Ab.cs) Ab.jK (l:=(l.set i ⟨v.id,v.kind,v.up,o.b1,o.c1,o.data,o.jA,o.own,o.b2,o.c2⟩)) (t:=i) (x:=(⟨v.id,v.kind,v.up,v.b1,o.c1,o.data,o.jA,o.own,o.b2,o.c2⟩:Ab)) (u:= .int .i64 v.b1) (i:=3) (by rw[List.length_set];exact hi) (by omega) (by simp only[List.getElem_set_self];rfl);rw[List.set_set]at e3;have h3:=(World.ownsRow.stored h2 (i*10+3) (.int .i64 v.b1)).1;rw[e3]at h3;have e4:=Ct (f:=Ab.cs) Ab.jK (l:=(l.set i ⟨v.id,v.kind,v.up,v.b1,o.c1,o.data,o.jA,o.own,o.b2,o.c2⟩)) (t:=i) (x:=(⟨v.id,v.kind,v.up,v.b1,v.c1,o.data,o.jA,o.own,o.b2,o.c2⟩:Ab)) (u:= .slice v.c1.a v.c1.n v.c1.k) (i:=4) (by rw[List.length_set];exact hi) (by omega) (by simp only[List.getElem_set_self];rfl);rw[List.set_set]at e4;have h4:=(World.ownsRow.stored h3 (i*10+4) (.slice v.c1.a v.c1.n v.c1.k)).1;rw[e4]at h4;have e5:=Ct (f:=Ab.cs) Ab.jK (l:=(l.set i ⟨v.id,v.kind,v.up,v.b1,v.c1,o.data,o.jA,o.own,o.b2,o.c2⟩)) (t:=i) (x:=(⟨v.id,v.kind,v.up,v.b1,v.c1,v.data,o.jA,o.own,o.b2,o.c2⟩:Ab)) (u:= .string v.data) (i:=5) (by rw[List.length_set];exact hi) (by omega) (by simp only[List.getElem_set_self];rfl);rw[List.set_set]at e5;have h5:=(World.ownsRow.stored h4 (i*10+5) (.string v.data)).1;rw[e5]at h5;have e6:=Ct (f:=Ab.cs) Ab.jK (l:=(l.set i ⟨v.id,v.kind,v.up,v.b1,v.c1,v.data,o.jA,o.own,o.b2,o.c2⟩)) (t:=i) (x:=(⟨v.id,v.kind,v.up,v.b1,v.c1,v.data,v.jA,o.own,o.b2,o.c2⟩:Ab)) (u:= .slice v.jA.a v.jA.n v.jA.k) (i:=6) (by rw[List.length_set];exact hi) (by omega) (by simp only[List.getElem_set_self];rfl);rw[List.set_set]at e6;have h6:=(World.ownsRow.stored h5 (i*10+6) (.slice v.jA.a v.jA.n v.jA.k)).1;rw[e6]at h6;have e7:=Ct (f:=Ab.cs) Ab.jK (l:=(l.set i ⟨v.id,v.kind,v.up,v.b1,v.c1,v.data,v.jA,o.own,o.b2,o.c2⟩)) (t:=i) (x:=(⟨v.id,v.kind,v.up,v.b1,v.c1,v.data,v.jA,v.own,o.b2,o.c2⟩:Ab)) (u:= .slice v.own.a v.own.n v.own.k) (i:=7) (by rw[List.length_set];exact hi) (by omega) (by simp only[List.getElem_set_self];rfl);rw[List.set_set]at e7;have h7:=(World.ownsRow.stored h6 (i*10+7) (.slice v.own.a v.own.n v.own.k)).1;rw[e7]at h7;have e8:=Ct (f:=Ab.cs) Ab.jK (l:=(l.set i ⟨v.id,v.kind,v.up,v.b1,v.c1,v.data,v.jA,v.own,o.b2,o.c2⟩)) (t:=i) (x:=(⟨v.id,v.kind,v.up,v.b1,v.c1,v.data,v.jA,v.own,v.b2,o.c2⟩:Ab)) (u:= .int .i64 v.b2) (i:=8) (by rw[List.length_set];exact hi) (by omega) (by simp only[List.getElem_set_self];rfl);rw[List.set_set]at e8;have h8:=(World.ownsRow.stored h7 (i*10+8) (.int .i64 v.b2)).1;rw[e8]at h8;have e9:=Ct (f:=Ab.cs) Ab.jK (l:=(l.set i ⟨v.id,v.kind,v.up,v.b1,v.c1,v.data,v.jA,v.own,v.b2,o.c2⟩)) (t:=i) (x:=(⟨v.id,v.kind,v.up,v.b1,v.c1,v.data,v.jA,v.own,v.b2,v.c2⟩:Ab)) (u:= .slice v.c2.a v.c2.n v.c2.k) (i:=9) (by rw[List.length_set];exact hi) (by omega) (by simp only[List.getElem_set_self];rfl);rw[List.set_set]at e9;have h9:=(World.ownsRow.stored h8 (i*10+9) (.slice v.c2.a v.c2.n v.c2.k)).1;rw[e9]at h9;exact h9
theorem AI.cells{w:World}{B q co:Nat}{l:List Ab}(h:AI w B (.slice (some ⟨q,0,none⟩) l.length co) l){i:Nat}(hi:i<l.length):Ci w q (i*10) l[i]/\q<w.heap.size/\B<=q/\(∃cur,Ah w q (.cells cur 88)):=by
 obtain⟨b,off,e,hlt,hc⟩:=Bj.own h (by omega);cases e;obtain⟨c0,c1,c2,c3,c4,c5,c6,c7,c8,c9⟩:=Lc hi;have g:∀(j:Nat) (u:Value),(Aw l)[j]? =some u->w.cell? ⟨q,j,none⟩=some u:=fun j u hu=>by
  have:=hc j u hu;rw[Nat.zero_add]at this;exact this
 refine⟨⟨g _ _ c0,g _ _ c1,g _ _ c2,g _ _ c3,g _ _ c4,g _ _ c5,g _ _ c6,g _ _ c7,g _ _ c8,g _ _ c9⟩,hlt,?_⟩;rcases h.2 with⟨hv,_⟩|⟨g',cap,cur,hv,hB,hgg,_⟩
 ·cases hv
 ·cases hv;exact⟨hB,cur,hgg⟩
theorem Sp{B e sz q n co:Nat}:∀(vs:List Value) (o:Nat) (w:World) (xs:List Value),w.ownsRow B e sz (.slice (some ⟨q,0,none⟩) n co) n xs->∃xs',(w.setCells q o vs).ownsRow B e sz (.slice (some ⟨q,0,none⟩) n co) n xs'/\xs'.take o=xs.take o/\w.grownBy (w.setCells q o vs) (some q)
 |[],o,w,xs,h=>⟨xs,h,rfl,⟨rfl,rfl,rfl,Nat.le_refl _,fun _ _ _=>rfl⟩⟩
 |v::r,o,w,xs,h=>by
  obtain⟨h1,g1⟩:=World.ownsRow.stored h o v;obtain⟨xs',h2,h3,g2⟩:=Sp r (o+1) _ _ h1;refine⟨xs',h2,?_,⟨g2.os.trans g1.os,g2.tape.trans g1.tape,g2.output.trans g1.output,Nat.le_trans g1.size g2.size,fun k hk hne=>(g2.block k (Nat.lt_of_lt_of_le hk g1.size) hne).trans (g1.block k hk hne)⟩⟩;have:=congrArg (List.take o) h3;rw[List.take_take,List.take_take,Nat.min_eq_left (by omega)]at this;rw[this,List.take_set_of_le (by omega)]
theorem YB{w:World}{B e sz q n co m:Nat}{xs ys:List Value}(h:w.ownsRow B e sz (.slice (some ⟨q,0,none⟩) n co) n xs)(hm:m<=n)(hy:ys=xs.take (m*sz)):w.ownsRow B e sz (.slice (some ⟨q,0,none⟩) m co) m ys:=by
 rcases h.2 with⟨hv,_⟩|⟨g',cap,cur,hv,hB,hgg,h1,h2,h3,h4⟩
 ·cases hv
 ·cases hv;have hmn:m*sz<=n*sz:=Nat.mul_le_mul_right _ hm;refine⟨by rw[hy,List.length_take,h.1];omega,.inr ⟨_,_,cur,rfl,hB,hgg,by omega,h2,h3,?_⟩⟩;rw[hy,<-h4,List.take_take,Nat.min_eq_left hmn]
theorem Rz(w:World)(b o n c:Nat)(hn:0<n)(hc:∀j,j<n*10->(w.cell? ⟨b,o+j,none⟩).isSome=true)(hf:∀j,j<n*10->w.frozen? ⟨b,o+j,none⟩=false):
 ∃vs,∀ty,(Builtin.clear_ #[34] ty #[.slice (some ⟨b,o,none⟩) n c]).run prog w= .ok (.tuple #[]) (w.setCells b o vs):=by
 have n1:Na #[.int .i64 0,.int .i64 0,.int .i64 0,.int .i64 0,.slice none 0 0,.string ⟨#[]⟩,.slice none 0 0,.slice none 0 0,.int .i64 0,.slice none 0 0]:=⟨⟩;have hl:(Builtin.zeroCells n1 n).toList.length=n*10:=by
  simp[Builtin.zeroCells]
 have h1:∀v∈(Builtin.zeroCells n1 n).toList,v.oneCell'=true:=fun v hv=>by
  simp only[Builtin.zeroCells,Array.toList_map,List.mem_map]at hv;obtain⟨i,_,rfl⟩:=hv;have hi:i%10<10:=Nat.mod_lt _ (by decide);show(#[Value.int .i64 0,.int .i64 0,.int .i64 0,.int .i64 0,.slice none 0 0,.string ⟨#[]⟩,.slice none 0 0,.slice none 0 0,.int .i64 0,.slice none 0 0][i%10]!).oneCell'=true;generalize i%10=k at *;rcases k with _|_|_|_|_|_|_|_|_|_|k;all_goals first|rfl|omega
 have hst:=run_storeCells_cells (P:=prog) b o _ 0 w (by rw[hl];simpa using hc) (by rw[hl];simpa using hf) h1;rw[Nat.add_zero]at hst;have hu:∀w,(underlying 34).run prog w= .ok (.slice 88) w:=fun w=>by simp[underlying,go_sem,underlying34]
 clear hl h1 hc hf;obtain⟨m,rfl⟩:∃m,n=m+1:=⟨n-1,by omega⟩;refine⟨(Builtin.zeroCells n1 (m+1)).toList,fun ty=>?_⟩;simp[Builtin.clear_,go_sem,hu,zeroValue88,Value.cells,hst]
theorem Sn(o:Ab)(vb ga:Nat)(G:Av)(w:World)(hv:w.cell? ⟨vb,ga,none⟩=some (.slice G.a G.n G.k))(hl:vb<w.heap.size)(hG:G.at w):
 Calls prog 141 #[.agg #[o.id,o.kind,o.up,o.b1,.slice o.c1.a o.c1.n o.c1.k,.string o.data,.slice o.jA.a o.jA.n o.jA.k,.slice o.own.a o.own.n o.own.k,o.b2,.slice o.c2.a o.c2.n o.c2.k],.pointer (some ⟨vb,ga,none⟩)] w fun e w'=>e= .returned (.bool (hasB G.n G.h o.id))/\Below w w w':=by
 have b0:Below w w (w.alloc (.cells #[o.id,o.kind,o.up,o.b1,.slice o.c1.a o.c1.n o.c1.k,.string o.data,.slice o.jA.a o.jA.n o.jA.k,.slice o.own.a o.own.n o.own.k,o.b2,.slice o.c2.a o.c2.n o.c2.k] 88)):=(Below.refl _ w).alloc (Nat.le_refl _) _;have v0:=(b0.cell (p:=⟨vb,ga,none⟩) hl).trans hv;have CT:=hid (Hq G.a G.n G.k G.h o.id _ hG.1 (hG.below b0).2);have B0:=hid b0;clear b0 hG hv;go_enter func141,ntmps141
 go_wp2_with fail
 refine CT.out.mono ?_;rintro e w1 ⟨rfl,rfl⟩;go_wp2;go_ret;exact⟨rfl,B0⟩
theorem Tg(B q co vb:Nat)(l:List Ab)(G:Av)(w:World)(h:AI w B (.slice (some ⟨q,0,none⟩) l.length co) l)(hn:l.length<=1048576)(hv:w.cell? ⟨vb,0,none⟩=some (.slice G.a G.n G.k))(hl:vb<w.heap.size)(hG:G.at w):
 Calls prog 165 #[.slice (some ⟨q,0,none⟩) l.length co,.func (.func 141) #[] #[.pointer (some ⟨vb,0,none⟩)]] w fun e w'=>Below w w w'/\((e= .returned (.int .i64 (-1))/\∀x∈l,hasB G.n G.h x.id=false)∨∃i,i<l.length/\e= .returned (.int .i64 i)/\(∀x∈l.take i,hasB G.n G.h x.id=false)/\hasB G.n G.h (Aa l i).id=true):=by
 have HO:=hid h;have HG:=hid hG;have HV:=hid hv;clear h hG hv;go_enter func165,ntmps165
 go_wp2;go_loopw [8] (fun i wr=>∃k:Nat,k<=l.length/\i= .int .i64 k/\Hid (Below w w wr)/\Hid (∀x∈l.take k,hasB G.n G.h x.id=false)) (fun i _=>l.length-(intOf i).toNat)
 case atStart=>exact⟨0,Nat.zero_le _,rfl,hid (Below.refl _ _),hid (fun x hx=>by simp at hx)⟩
 case round=>
  obtain⟨k,hk,rfl,BW,NG⟩:=hrel;by_cases hlt:k<l.length
  ·have i1:(k:Int)<(l.length:Int):=(by omega);have i0:(0:Int)<=(k:Int):=(by omega);obtain⟨CC,ql,_⟩:=AI.cells (AI.below HO BW) hlt;have q0:wr.cell? ⟨q,k*10,none⟩=some (.int .i64 l[k].id):=CC.c0;have q1:wr.cell? ⟨q,k*10+1,none⟩=some (.int .i64 l[k].kind):=CC.c1;have q2:wr.cell? ⟨q,k*10+2,none⟩=some (.int .i64 l[k].up):=CC.c2;have q3:wr.cell? ⟨q,k*10+3,none⟩=some (.int .i64 l[k].b1):=CC.c3;have q4:wr.cell? ⟨q,k*10+4,none⟩=some (.slice l[k].c1.a l[k].c1.n l[k].c1.k):=CC.c4;have q5:wr.cell? ⟨q,k*10+5,none⟩=some (.string l[k].data):=CC.c5;have q6:wr.cell? ⟨q,k*10+6,none⟩=some (.slice l[k].jA.a l[k].jA.n l[k].jA.k):=CC.c6;have q7:wr.cell? ⟨q,k*10+7,none⟩=some (.slice l[k].own.a l[k].own.n l[k].own.k):=CC.c7;have q8:wr.cell? ⟨q,k*10+8,none⟩=some (.int .i64 l[k].b2):=CC.c8;have q9:wr.cell? ⟨q,k*10+9,none⟩=some (.slice l[k].c2.a l[k].c2.n l[k].c2.k):=CC.c9;have GA:=hid (Sn l[k] vb 0 G wr ((BW.out.cell (p:=⟨vb,0,none⟩) hl).trans HV) (Nat.lt_of_lt_of_le hl BW.out.size) (HG.out.below BW));clear CC;go_wp2_with fail
   refine GA.out.mono ?_;rintro e w1 ⟨rfl,b1⟩;have B1:=hid (Ae BW b1);clear b1 q0 q1 q2 q3 q4 q5 q6 q7 q8 q9 GA;cases hg:hasB G.n G.h l[k].id with
   |true=>
    go_wp2;go_ret;refine⟨B1,.inr ⟨k,hlt,rfl,NG,?_⟩⟩;rw[AM hlt];exact hg
   |false=>
    go_wp2;go_roundw;case rel=>
     refine⟨k+1,by omega,by go_num,B1,hid (fun x hx=>?_)⟩;rw[List.take_add_one,List.getElem?_eq_getElem hlt]at hx;rcases List.mem_append.1 hx with hx|hx
     ·exact NG.out x hx
     ·simp at hx;rw[hx];exact hg
    case measure=>simp[intOf];omega
  ·have i1:¬(k:Int)<(l.length:Int):=(by omega);go_wp2;go_ret;refine⟨BW,.inl ⟨rfl,fun x hx=>NG x ?_⟩⟩;rw[List.take_of_length_le (by omega)];exact hx
end Go.Proofs.YtmikapeeflcbfaaGreatDoor
