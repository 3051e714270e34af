import Derived.Lib.SliceRun
import Derived.Test.YtdaccbddcjlkpaaGreatDoorZ13p
import Derived.Test.YtdaccbddcjlkpaaGreatDoorND1p
set_option maxRecDepth 100000
set_option maxHeartbeats 16000000
namespace Go.Proofs.YtdaccbddcjlkpaaGreatDoor
open Go Go.RowKit Go.Deep Go.Maps Go.Proofs.Tryz
open Go.Value renaming slice→qV
open _root_.List renaming getElem_mem→qk,range→qx
variable {w:World}{B n m ca co:Nat}{ta oa:Option Addr}{lt:List Ae}{lo:List Ab}{s:Aj}
def fW(X:Ae)(c:Int)(tx:ByteArray)(x:Ae):Prop:=(c=5/\(X.made=30∨X.own.n=10)/\x=X/\tx=⟨#[]⟩)∨(c=0/\¬(X.made=30∨X.own.n=10)/\tx=⟨(Dd (Aw X).toNat).toArray⟩/\∃(a:Option Addr) (cc:Nat),x=⟨X.id,X.b1,X.c1,X.b2,X.c2,⟨a,(Eh ((qx X.own.n).map X.own.h) (Aw X)).length,cc,AZ (Eh ((qx X.own.n).map X.own.h) (Aw X))⟩,X.made+1⟩)
def dU(X:Ae)(s:Aj)(c:Int)(x:Ae):Prop:=(c=4/\Iu X s=false/\x=X)∨(c=0/\Iu X s=true/\∃d:As,s.c1.same d/\x=⟨X.id,s.b1,d,X.b2,X.c2,X.own,X.made⟩)
def fw(X:Ae)(s:Aj)(c:Int)(x:Ae):Prop:=(c=4/\hasB X.own.n X.own.h s.cat=false/\x=X)∨(c=0/\hasB X.own.n X.own.h s.cat=true/\∃(a:Option Addr) (cc:Nat),x=⟨X.id,X.b1,X.c1,X.b2,X.c2,⟨a,(Dm X.own.h s.cat X.own.n).length,cc,AZ (Dm X.own.h s.cat X.own.n)⟩,X.made⟩)
inductive GC(X:Ae) (s:Aj) (lt:List Ae) (lo:List Ab) (t:Nat) (c:Int) (tx:ByteArray) (lt':List Ae) (lo':List Ab):Prop
 |k1 (h:s.kind=1) (x:Ae) (e1:lt'=lt.set t x) (e2:lo'=lo) (p:fW X c tx x)
 |k12 (h:s.kind=12) (x:Ae) (e1:lt'=lt.set t x) (e2:lo'=lo) (e3:tx=⟨#[]⟩) (p:dU X s c x)
 |k14 (h:s.kind=14) (x:Ae) (e1:lt'=lt.set t x) (e2:lo'=lo) (e3:tx=⟨#[]⟩) (p:fw X s c x)
 |make (h:s.kind=2∨s.kind=3∨s.kind=4∨s.kind=5) (p:YZ X s lt lo t c tx lt' lo')
 |drop (h:s.kind=11) (e1:lt'=lt) (e3:tx=⟨#[]⟩) (p:cZ X s lo c lo')
 |k6 (h:s.kind=6) (p:fQ X s lt lo t c tx lt' lo')
 |k7 (h:s.kind=7) (p:fX X s lt lo t c tx lt' lo')
 |k8 (h:s.kind=8) (p:fN X s lt lo t c tx lt' lo')
 |k9 (h:s.kind=9) (p:fR X s lt lo t c tx lt' lo')
 |k10 (h:s.kind=10) (p:de X s lt lo t c tx lt' lo')
 |k13 (h:s.kind=13) (p:dq X s lt lo t c tx lt' lo')
 |k15 (h:s.kind=15) (p:di X s lt lo t c tx lt' lo')
theorem Bz.len(h:Bz w B (qV ta n ca) (qV oa m co) lt lo):n=lt.length/\m=lo.length:=by
 obtain⟨a,c,e⟩:=Du.shape h.t;obtain⟨a',c',e'⟩:=AW.shape h.o;cases e;cases e';exact⟨rfl,rfl⟩
def ZZ(B:Nat)(w:World)(lt:List Ae)(lo:List Ab)(X:Ae)(s:Aj)(t:Nat)(e:Ending)(w':World):Prop:=
 ∃(lt':List Ae) (lo':List Ab) (ta:Option Addr) (ca:Nat) (oa:Option Addr) (co:Nat) (c:Int) (tx:ByteArray),e= .returned (.tuple #[.agg #[qV ta lt'.length ca,qV oa lo'.length co],.int .i64 c,.string tx])/\Bz w' B (qV ta lt'.length ca) (qV oa lo'.length co) lt' lo'/\Below B w w'/\GC X s lt lo t c tx lt' lo'
theorem Kc{w':World}{lt':List Ae}{lo':List Ab}{X:Ae}{t:Nat}{e:Ending}{c:Int}{tx:ByteArray}(h:e= .returned (.tuple #[.agg #[qV ta n ca,qV oa m co],.int .i64 c,.string tx]))(k:Bz w' B (qV ta n ca) (qV oa m co) lt' lo')(b:Below B w w')(a:GC X s lt lo t c tx lt' lo'):ZZ B w lt lo X s t e w':=by
 obtain⟨rfl,rfl⟩:=k.len;exact⟨lt',lo',ta,ca,oa,co,c,tx,h,k,b,a⟩
theorem Og(lt:List Ae)(lo:List Ab)(g ca q co B:Nat)(w:World)(st:Bz w B (qV g lt.length ca) (qV q lo.length co) lt lo)(hB:B<=w.heap.size)(ok:okL lt lo=true)(t:Nat)(ht:t<lt.length)(s:Aj)(hs:∀W,Below B w W->s.at W)(so:s.ok=true)(hk:s.kind=1∨s.kind=12∨s.kind=14):Calls prog 44 #[.agg #[qV g lt.length ca,qV q lo.length co],.int .i64 t,.agg s] w (ZZ B w lt lo lt[t] s t):=by
 have X:=FK ok _ (qk ht);have sf:=Hu so;have sa:s.at w:=hs w (Below.refl _ _);rcases hk with hk|hk|hk
 ·refine(VS lt lo g ca (some ⟨q,0,none⟩) co B w st hB t ht _ rfl X.small s hk X.id X.made (JH X.own)).mono ?_;rintro e w' ⟨x,c,tx,e1,k1,b1,p⟩;exact Kc e1 k1 b1 (.k1 hk x rfl rfl p)
 ·refine(SX lt lo g ca (some ⟨q,0,none⟩) co B w st hB t ht _ rfl X.small s sa hk (by have:=(Ce sf.l1).2;omega) (Ce X.l1).1 (Ce X.l2).1 (Ce sf.l1).1).mono ?_;rintro e w' ⟨x,c,e1,k1,b1,p⟩;exact Kc e1 k1 b1 (.k12 hk x rfl rfl rfl p)
 ·refine(RJ lt lo g ca (some ⟨q,0,none⟩) co B w st hB t ht _ rfl X.small s hk).mono ?_;rintro e w' ⟨x,c,e1,k1,b1,p⟩;exact Kc e1 k1 b1 (.k14 hk x rfl rfl rfl p)
theorem Jf(sf:Xd s):((s.kind=2∨s.kind=3∨s.kind=4)->s.cat=0)/\(s.kind=5->0<=s.cat):=by
 have h:=sf.cat;unfold Pt UG at h;constructor
 ·intro hk;by_cases e:s.cat=0
  ·exact e
  ·have e1:(s.cat==0)=false:=(by simpa using e);rw[e1]at h;rcases hk with hk|hk|hk<;>(rw[hk]at h;simp at h)
 ·intro hk;by_cases e:s.cat=0
  ·omega
  ·have e1:(s.cat==0)=false:=(by simpa using e);rw[e1,hk]at h;simp[Ev]at h;omega
theorem Se(ok:okL lt lo=true):∀x∈lo,x.c1.n<=1048576/\FF x.c1:=fun x hx=>by
 have h:=Ce (Fs ok x hx).l1;exact⟨by have:=h.2;omega,h.1⟩
theorem YX(ok:okL lt lo=true):∀x∈lo,x.c2.n<=1048576/\FF x.c2:=fun x hx=>by
 have h:=Ce (Fs ok x hx).l2;exact⟨by have:=h.2;omega,h.1⟩
theorem Mg(lt:List Ae)(lo:List Ab)(g ca q co B:Nat)(w:World)(st:Bz w B (qV g lt.length ca) (qV q lo.length co) lt lo)(hB:B<=w.heap.size)(ok:okL lt lo=true)(t:Nat)(ht:t<lt.length)(s:Aj)(hs:∀W,Below B w W->s.at W)(so:s.ok=true)(hk:s.kind=2∨s.kind=3∨s.kind=4∨s.kind=5):Calls prog 45 #[.agg #[qV g lt.length ca,qV q lo.length co],.int .i64 t,.agg s] w (ZZ B w lt lo lt[t] s t):=by
 have X:=FK ok _ (qk ht);have sf:=Hu so;have n1:=Gh ok;have n2:=Er ok;refine(WK lt lo g ca q co B w st hB t ht _ rfl X.small s hs (by have:=(Ce sf.l1).2;omega) (by have:=(Ce sf.l2).2;omega) (Ce X.l1).1 (Ce X.l2).1 (Ce sf.l1).1 X.id X.made qQ qQ (Cx ok) (Se ok) ?_).mono ?_
 ·rcases hk with h|h|h|h
  ·exact .inl ⟨.inl h,(Jf sf).1 (.inl h)⟩
  ·exact .inl ⟨.inr (.inl h),(Jf sf).1 (.inr (.inl h))⟩
  ·exact .inl ⟨.inr (.inr h),(Jf sf).1 (.inr (.inr h))⟩
  ·exact .inr ⟨h,(Jf sf).2 h⟩
 ·rintro e w' ⟨lt',lo',ob,cb,c,tx,e1,k1,b1,p⟩;exact Kc e1 k1 b1 (.make hk p)
theorem Zv(lt:List Ae)(lo:List Ab)(g ca q co B:Nat)(w:World)(st:Bz w B (qV g lt.length ca) (qV q lo.length co) lt lo)(hB:B<=w.heap.size)(ok:okL lt lo=true)(t:Nat)(ht:t<lt.length)(s:Aj)(_hs:∀W,Below B w W->s.at W)(_so:s.ok=true)(hk:s.kind=11):Calls prog 46 #[.agg #[qV g lt.length ca,qV q lo.length co],.int .i64 t,.agg s] w (ZZ B w lt lo lt[t] s t):=by
 have X:=FK ok _ (qk ht);have n1:=Gh ok;have n2:=Er ok;refine(VA lt lo g ca q co B w st hB t ht _ rfl X.small s (Ce X.l1).1 qQ qQ (Cx ok) (Se ok) ok).mono ?_;rintro e w' ⟨lo',ob,cb,c,e1,k1,b1,p⟩;exact Kc e1 k1 b1 (.drop hk rfl rfl p)
theorem cw(lt:List Ae)(lo:List Ab)(g ca q co B:Nat)(w:World)(st:Bz w B (qV g lt.length ca) (qV q lo.length co) lt lo)(hB:B<=w.heap.size)(ok:okL lt lo=true)(t:Nat)(ht:t<lt.length)(s:Aj)(hs:∀W,Below B w W->s.at W)(_so:s.ok=true)(hk:s.kind=6∨s.kind=7∨s.kind=8∨s.kind=9∨s.kind=10∨s.kind=13∨s.kind=15):Calls prog 47 #[.agg #[qV g lt.length ca,qV q lo.length co],.int .i64 t,.agg s] w (ZZ B w lt lo lt[t] s t):=by
 have X:=FK ok _ (qk ht);have n1:=Gh ok;have n2:=Er ok;have hI:∀x∈lo,x.jA.n<=8:=fun x hx=>(Mq ok x hx).1;have hW:∀x∈lo,x.own.n<=10:=fun x hx=>JH (Fs ok x hx).own;have hx:=JH X.own;refine(XO lt lo g ca q co B w st hB t ht _ rfl X.small s hs (Ce X.l1).1 qQ qQ (Cx ok) (Se ok) (fun x hx=>by have:=hI x hx;omega) qQ (Iv ok) (YX ok) (fun x hx=>by have:=hW x hx;omega) qQ hk).mono ?_;rintro e w' ⟨lt',lo',c,tx,e1,k1,b1,p⟩;refine Kc e1 k1 b1 ?_;cases p with
 |no h hc ht e1 e2=>
  rcases hk with hk|hk|hk|hk|hk|hk|hk
  ·exact .k6 hk (.inl ⟨by rw[hk]at h;exact h,hc,ht,e1,e2⟩)
  ·exact .k7 hk (.inl ⟨by rw[hk]at h;exact h,hc,ht,e1,e2⟩)
  ·exact .k8 hk (.inl ⟨by rw[hk]at h;exact h,hc,ht,e1,e2⟩)
  ·exact .k9 hk (.inl ⟨by rw[hk]at h;exact h,hc,ht,e1,e2⟩)
  ·exact .k10 hk (.inl ⟨by rw[hk]at h;exact h,hc,ht,e1,e2⟩)
  ·exact .k13 hk (.inl ⟨by rw[hk]at h;exact h,hc,ht,e1,e2⟩)
  ·exact .k15 hk (.inl ⟨by rw[hk]at h;exact h,hc,ht,e1,e2⟩)
 |k6 h p=>exact .k6 h p
 |k7 h p=>exact .k7 h p
 |k8 h p=>exact .k8 h p
 |k9 h p=>exact .k9 h p
 |k10 h p=>exact .k10 h p
 |k13 h p=>exact .k13 h p
 |k15 h p=>exact .k15 h p
open Go.Shelf
open _root_.Bool renaming and_eq_true→qz
variable {b:Int}{c:As}{W:World}{X:Ae}{n:Nat}{h:Nat->Int}
theorem LZ{o:AJ}{b':Int}{c':As}(hc:c.at W)(ho:o.at W)(hc':c'.at W)(l1:Bb b c.n c.f c.g=true)(l2:Cf o.n o.h=true)(l3:Bb b' c'.n c'.f c'.g=true):
 Calls prog 179 #[.agg #[.int .i64 b,c],o,.agg #[.int .i64 b',c']] W fun e w'=>e= .returned (.bool (El b c o b' c'))/\Below W W w':=by
 have h:=It b c.a c.n c.k c.f c.g o.a o.n o.k o.h b' c'.a c'.n c'.k c'.f c'.g W hc.1 hc'.1 ho.1 hc.2 hc'.2 ho.2;refine h.mono ?_;rintro e w' ⟨rfl,hb⟩;refine⟨?_,hb⟩;unfold El Dn;simp[l1,l2,l3]
theorem UT(h:Pe X):Dz X.id X.made X.b1 X.c1.n X.c1.f X.c1.g X.b2 X.c2.n X.c2.f X.c2.g X.own.n X.own.h=true:=IM.2 h
theorem eK(hX:X.at W)(hc:c.at W)(hF:Pe X)(l:Bb b c.n c.f c.g=true):
 Calls prog 183 #[.agg X,.agg #[.int .i64 b,c]] W fun e w'=>e= .returned (.bool (H9 X b c))/\Below W W w':=by
 refine(Ma X.id X.made X.b1 X.c1.a X.c1.n X.c1.k X.c1.f X.c1.g X.b2 X.c2.a X.c2.n X.c2.k X.c2.f X.c2.g X.own.a X.own.n X.own.k X.own.h b c.a c.n c.k c.f c.g W hX.1.1 hX.2.1.1 hX.2.2.1 hX.1.2 hX.2.1.2 hX.2.2.2 hc.1 hc.2).mono ?_;rintro e w' ⟨rfl,hb⟩;refine⟨?_,hb⟩;unfold M9 H9;rw[UT hF,l];simp
theorem Xz(hX:X.at W)(hc:c.at W)(hF:Pe X)(l:Bb b c.n c.f c.g=true):
 Calls prog 175 #[.agg X,.agg #[.int .i64 b,c]] W fun e w'=>e= .returned (.bool (Ap X b c))/\Below W W w':=by
 refine(Nu X.id X.made X.b1 X.c1.a X.c1.n X.c1.k X.c1.f X.c1.g X.b2 X.c2.a X.c2.n X.c2.k X.c2.f X.c2.g X.own.a X.own.n X.own.k X.own.h b c.a c.n c.k c.f c.g W hX.1.1 hX.2.1.1 hX.2.2.1 hX.1.2 hX.2.1.2 hX.2.2.2 hc.1 hc.2).mono ?_;rintro e w' ⟨rfl,hb⟩;refine⟨?_,hb⟩;unfold Mb M9 Ol Ap H9;rw[UT hF,l];simp
theorem ZN(e:Cf n h=true):∀i j,i<j->j<n->h i<h j:=by
 obtain⟨_,ha⟩:=Rk e;have one:∀j,0<j->j<n->h (j-1)<h j:=fun j h0 hj=>by
  have:=ha j hj;unfold Ef at this;simp only[qz,Bool.or_eq_true,beq_iff_eq,decide_eq_true_eq]at this;rcases this.2 with h|h
  ·omega
  ·exact h
 intro i j hij hj;induction j with
 |zero=>omega
 |succ j ih=>
  have h1:=one (j+1) qQ hj;simp only[Nat.add_sub_cancel]at h1;by_cases e:i=j
  ·subst e;exact h1
  ·have:=ih qQ qQ;omega
theorem Vo(e:Cf n h=true):((List.range n).map h).Pairwise (· <·):=by
 rw[List.pairwise_iff_getElem];intro i j hi hj hij;simp only[List.length_map,List.length_range]at hi hj;simpa using ZN e i j hij hj
structure Env(E:Nat->Addr)(w:World)(B P:Nat)(s:Aj)(g ca q co:Nat)(lt:List Ae)(lo:List Ab)(t c C:Nat)(nb:Nat->Nat)(kv:Nat->Value)(K:Nat->List Int)(X:Ae):Prop where
 h:Fg w B P s g ca q co lt lo t (.map (some c))
 n:Ei w C c lo.length (fun i=>(Aa lo i).id) q 0 nb kv K
 e:LY w E
 h14:14<=B
 hB:B<=w.heap.size
 ht:t<lt.length
 hX:X=lt[t]
 hs:∀W,Below B w W->s.at W
 so:s.ok=true
 ok:okL lt lo=true
 tab:Td w
 kid:∀u,u<lo.length->K u=Kt (Aa lo) (Aa lo u).id lo.length
 ti:Ls lo
theorem Nc{x:Int}(h:0<=x/\x<=1000000):(Lit.int .i64 x).wf=true:=by
 have e1:IntKind.i64.min= -9223372036854775808:=by decide
 have e2:IntKind.i64.max=9223372036854775807:=by decide
 simp only[Lit.wf,qz,decide_eq_true_eq,e1,e2];omega
theorem FG{lo:List Ab}{u:Nat}(h:u<lo.length):Aa lo u∈lo:=by rw[AL h];exact List.getElem_mem h
section
variable {E:Nat->Addr}{w W:World}{B P:Nat}{s:Aj}{g ca q co:Nat}{lt:List Ae}{lo:List Ab}{t c C:Nat}{nb:Nat->Nat}{kv:Nat->Value}{K:Nat->List Int}{X:Ae}
theorem Td.low{w w':World}(h:Td w)(hb:Below w w w'):Td w':=h.below hb
theorem Env.below(v:Env E w B P s g ca q co lt lo t c C nb kv K X)(hb:Below w w W):Env E W B P s g ca q co lt lo t c C nb kv K X:=
 ⟨v.h.below hb,v.n.below hb,v.e.below v.h14 (hb.mono v.hB),v.h14,Nat.le_trans v.hB hb.size,v.ht,v.hX,fun W' hW=>v.hs W' ((hb.mono v.hB).trans hW),v.so,v.ok,v.tab.below hb,v.kid,v.ti⟩
theorem Env.thr(v:Env E w B P s g ca q co lt lo t c C nb kv K X):Pe X:=by rw[v.hX];exact FK v.ok _ (qk v.ht)
theorem Env.xat(v:Env E w B P s g ca q co lt lo t c C nb kv K X):X.at w:=by rw[v.hX];exact(v.h.st.tn _ (qk v.ht)).at
theorem Env.oat(v:Env E w B P s g ca q co lt lo t c C nb kv K X){u:Nat}(hu:u<lo.length):(Aa lo u).at w:=by
 rw[AL hu];exact⟨(v.h.st.on _ (qk hu)).1.1,(v.h.st.on _ (qk hu)).2.1.1,(v.h.st.on _ (qk hu)).2.2.1.1,(v.h.st.on _ (qk hu)).2.2.2.1,Cx v.ok _ (qk hu)⟩
theorem Env.obj(v:Env E w B P s g ca q co lt lo t c C nb kv K X){u:Nat}(hu:u<lo.length):NY (Aa lo u):=Fs v.ok _ (FG hu)
theorem Env.changes(v:Env E w B P s g ca q co lt lo t c C nb kv K X)(p:Nat)(hp:p<lo.length)(W:World)(hb:Below w w W):
 Calls prog 175 #[.agg X,.agg #[.int .i64 (Aa lo p).b1,.slice (Aa lo p).c1.a (Aa lo p).c1.n (Aa lo p).c1.k]] W fun e w'=>e= .returned (.bool (Ap X (Aa lo p).b1 (Aa lo p).c1))/\Below W W w':=
 Xz (v.xat.below hb) ((v.oat hp).1.below hb) v.thr (v.obj hp).l1
theorem Env.sees(v:Env E w B P s g ca q co lt lo t c C nb kv K X)(p:Nat)(hp:p<lo.length)(W:World)(hb:Below w w W):
 Calls prog 183 #[.agg X,.agg #[.int .i64 (Aa lo p).b1,.slice (Aa lo p).c1.a (Aa lo p).c1.n (Aa lo p).c1.k]] W fun e w'=>e= .returned (.bool (H9 X (Aa lo p).b1 (Aa lo p).c1))/\Below W W w':=
 eK (v.xat.below hb) ((v.oat hp).1.below hb) v.thr (v.obj hp).l1
theorem fA{s:Aj}(so:s.ok=true):(Lit.int .i64 s.to).wf=true:=by
 refine Nc ?_;unfold Aj.ok Hi Fj at so;simp only[Bool.and_eq_true]at so;obtain⟨⟨_,h⟩,_⟩:=so;unfold NF at h;split at h
 ·simp only[CY]at h;omega
 ·have:=beq_iff_eq.1 h;omega
theorem gv{s:Aj}(sf:Xd s):(Lit.int .i64 s.id).wf=true:=by
 refine Nc ?_;have h:=sf.id;unfold NF at h;split at h
 ·simp only[CY]at h;omega
 ·have:=beq_iff_eq.1 h;omega
end
open Go.Value renaming pointer→pT
open Go renaming Value→qB
def KP(w:World)(P:Nat):Prop:=∃(ga qa:Option Addr) (n m ca co:Nat),w.cell? ⟨P,10,none⟩=some (.slice ga n ca)/\w.cell? ⟨P,11,none⟩=some (.slice qa m co)
theorem KP.of{w:World}{P ty:Nat}{s:Aj}{g nt ca q no co t:Nat}{m:qB}(h:Ag w P (.cells (IN s g nt ca q no co t m) ty)):KP w P:=⟨_,_,_,_,_,_,h.jZ.2.1,h.jZ.2.2.1⟩
def Kz(E:Nat->Addr)(B P:Nat)(s:Aj)(lt:List Ae)(lo:List Ab)(t:Nat)(X:Ae)(m:qB)(w w':World)(tx:ByteArray)(v:qB):Prop:=
 Below B w w'/\((KP w' P/\∃c,Told w' B E v c/\c≠0/\GC X s lt lo t c ⟨#[]⟩ lt lo)∨(v= .nilIface/\∃(g ca q co:Nat) (lt':List Ae) (lo':List Ab),Pk w' B P s g ca q co lt' lo' t m/\GC X s lt lo t 0 tx lt' lo'))
section
variable {E:Nat->Addr}{w W:World}{B P:Nat}{s:Aj}{g ca q co:Nat}{lt:List Ae}{lo:List Ab}{t c C:Nat}{nb:Nat->Nat}{kv:Nat->qB}{K:Nat->List Int}{X:Ae}
theorem Kz.from{m:qB}{w':World}{tx:ByteArray}{r:qB}(h:Kz E B P s lt lo t X m W w' tx r)(hb:Below B w W):Kz E B P s lt lo t X m w w' tx r:=⟨hb.trans h.1,h.2⟩
theorem Kz.no{m:qB}{w':World}{tx:ByteArray}{r:qB}{c:Int}(kp:KP w' P)(hb:Below B w w')(ht:Told w' B E r c)(hc:c≠0)(ha:GC X s lt lo t c ⟨#[]⟩ lt lo):Kz E B P s lt lo t X m w w' tx r:=⟨hb,.inl ⟨kp,c,ht,hc,ha⟩⟩
theorem Kz.yes{m:qB}{w':World}{tx:ByteArray}{lt':List Ae}{lo':List Ab}{g' ca' q' co':Nat}(hb:Below B w w')(hs:Pk w' B P s g' ca' q' co' lt' lo' t m)(ha:GC X s lt lo t 0 tx lt' lo'):Kz E B P s lt lo t X m w w' tx .nilIface:=⟨hb,.inr ⟨rfl,_,_,_,_,_,_,hs,ha⟩⟩
theorem fV(v:Env E w B P s g ca q co lt lo t c C nb kv K X){u:Nat}(hu:BF X lo s.id 1=some u)(hk:(s.kind=6/\Ap X (Aa lo u).b1 (Aa lo u).c1=true)∨s.kind=7∨s.kind=8):
 Calls prog 185 #[pT P,.agg #[pT (some ⟨q,u*10,none⟩)]] w fun e w'=>∃tx r,e= .returned (.tuple #[.string tx,r])/\Kz E B P s lt lo t X (.map (some c)) w w' tx r:=by
 obtain⟨_,ul,_⟩:=Ew hu;have eo:=AL ul;have hd:=Cx v.ok;rcases hk with⟨hk,hc⟩|hk|hk
 ·refine(Mo w B P s g ca q co lt lo t _ v.h v.hB u ul _ eo hd hk).mono ?_;rintro e w' ⟨rfl,h1,h2⟩;exact⟨_,_,rfl,.yes h2 h1.f (.k6 hk (.inr ⟨u,hu,.inr ⟨hc,rfl,rfl,rfl,rfl⟩⟩))⟩
 ·refine(NV w B P s g ca q co lt lo t _ v.h v.hB u ul _ eo hd hk).mono ?_;rintro e w' ⟨rfl,h1,h2⟩;exact⟨_,_,rfl,.yes h2 h1.f (.k7 hk (.inr ⟨u,hu,rfl,rfl,rfl,rfl⟩))⟩
 ·have b0:Below w w (w.alloc (.cells #[pT (some ⟨q,u*10,none⟩)] 250)):=Bg w _;have V:=v.below b0;have CT:=WG E _ B P s g ca q co lt lo t c C nb kv K V.h V.n V.e V.h14 V.hB V.ht X V.hX u ul _ eo hd (fA v.so) (fun p hp W hW=>V.changes p hp W hW);refine(NM w B P s g ca q co lt lo t _ v.h u ul _ eo hd hk _ CT).mono ?_;rintro e w' ⟨r,rfl,c',lo',h1,h2,h3,h4⟩;refine⟨_,r,rfl,?_⟩;have h2':=(b0.mono v.hB).trans h2;rcases h4 with⟨a1,rfl,rfl⟩|⟨p,a1,⟨a2,rfl,rfl⟩|⟨a2,a3,rfl,rfl⟩⟩
  ·exact .no (.of h1.wk) h2' h3 qX (.k8 hk (.inr ⟨u,hu,.inl ⟨a1,rfl,rfl,rfl,rfl⟩⟩))
  ·exact .no (.of h1.wk) h2' h3 qX (.k8 hk (.inr ⟨u,hu,.inr ⟨p,a1,.inl ⟨a2,rfl,rfl,rfl,rfl⟩⟩⟩))
  ·rcases h3 with⟨_,rfl⟩|⟨h,_⟩
   ·exact .yes h2' h1.f (.k8 hk (.inr ⟨u,hu,.inr ⟨p,a1,.inr ⟨a2,a3,rfl,rfl,rfl,rfl⟩⟩⟩))
   ·exact absurd rfl h
theorem gA(v:Env E w B P s g ca q co lt lo t c C nb kv K X){u:Nat}(hu:BF X lo s.id 2=some u)(hc:Ap X (Aa lo u).b1 (Aa lo u).c1=true)(hk:s.kind=9∨s.kind=10):
 Calls prog 186 #[pT P,.agg #[pT (some ⟨q,u*10,none⟩)]] w fun e w'=>∃tx r,e= .returned (.tuple #[.string tx,r])/\Kz E B P s lt lo t X (.map (some c)) w w' tx r:=by
 obtain⟨_,ul,_⟩:=Ew hu;have eo:=AL ul;have hd:=Cx v.ok;have hi:=(Mq v.ok _ (FG ul)).1;rcases hk with hk|hk
 ·by_cases hf:(Aa lo u).jA.n=8
  ·refine(QA E w B P s g ca q co lt lo t _ v.h v.e v.h14 v.hB u ul _ eo hd hk hf).mono ?_;rintro e w' ⟨r,rfl,h1,h2,h3⟩;exact⟨_,r,rfl,.no (.of h3.wk) h1 h2 qX (.k9 hk (.inr ⟨u,hu,.inr (.inl ⟨hc,hf,rfl,rfl,rfl,rfl⟩)⟩))⟩
  ·refine(Sf w B P s g ca q co lt lo t _ v.h v.hB u ul _ eo hd hk hf qQ (v.ti _ (FG ul)) (by have:=GK (Hu v.so).data;unfold maxLen;omega)).mono ?_;rintro e w' ⟨a,cc,rfl,h1,h2⟩;exact⟨_,_,rfl,.yes h2 h1.f (.k9 hk (.inr ⟨u,hu,.inr (.inr ⟨hc,hf,rfl,rfl,rfl,a,cc,rfl⟩)⟩))⟩
 ·by_cases hf:(Aa lo u).jA.n=0
  ·refine(Qn E w B P s g ca q co lt lo t _ v.h v.e v.h14 v.hB u ul _ eo hd hk hf).mono ?_;rintro e w' ⟨r,rfl,h1,h2,h3⟩;exact⟨_,r,rfl,.no (.of h3.wk) h1 h2 qX (.k10 hk (.inr ⟨u,hu,.inr (.inl ⟨hc,hf,rfl,rfl,rfl,rfl⟩)⟩))⟩
  ·refine(Qp w B P s g ca q co lt lo t _ v.h v.hB u ul _ eo hd hk hf qQ).mono ?_;rintro e w' ⟨rfl,⟨a,kk,h1⟩,h2⟩;exact⟨_,_,rfl,.yes h2 h1 (.k10 hk (.inr ⟨u,hu,.inr (.inr ⟨hc,hf,rfl,rfl,rfl,a,kk,rfl⟩)⟩))⟩
theorem gE(v:Env E w B P s g ca q co lt lo t c C nb kv K X){u:Nat}(hu:BF X lo s.id 3=some u)(hk:s.kind=15):
 Calls prog 187 #[pT P,.agg #[pT (some ⟨q,u*10,none⟩)]] w fun e w'=>∃tx,e= .returned (.string tx)/\Kz E B P s lt lo t X (.map (some c)) w w' tx .nilIface:=by
 obtain⟨ha,ul,hid_,_⟩:=Ew hu;have eo:=AL ul;rw[<-eo]at hid_;have on:=Er v.ok;have hl:(Kt (Aa lo) (Aa lo u).id lo.length).length<=lo.length:=by
  unfold Kt;rw[List.length_map];exact Nat.le_trans (List.length_filter_le _ _) sI
 refine(ZO w B P s g ca q co lt lo t c C nb kv K v.h v.n v.hB u ul _ eo (Cx v.ok) (by rw[hid_];exact ha) (Nc (Iv v.ok _ (FG ul))) _ (v.kid u ul) qQ (fun x hx=>?_) v.tab).mono ?_
 ·unfold Kt at hx;obtain⟨i,hi,rfl⟩:=List.mem_map.1 hx;exact Iv v.ok _ (FG (List.mem_range.1 (List.mem_filter.1 hi).1))
 ·rintro e w' ⟨rfl,h1,h2⟩;refine⟨_,rfl,.yes h2 h1.f (.k15 hk (.inr ⟨u,hu,rfl,?_,rfl,rfl⟩))⟩;rw[hid_]
theorem gC(v:Env E w B P s g ca q co lt lo t c C nb kv K X){u:Nat}(hu:BF X lo s.id 4=some u)(hk:s.kind=13):
 Calls prog 188 #[pT P,.agg #[pT (some ⟨q,u*10,none⟩)]] w fun e w'=>∃r,e= .returned r/\Kz E B P s lt lo t X (.map (some c)) w w' ⟨#[]⟩ r:=by
 obtain⟨ha,ul,_⟩:=Ew hu;have eo:=AL ul;have o1:=JH v.thr.own;have o2:=JH (v.obj ul).own;have PT:Lib.compact (CM ((qx X.own.n).map X.own.h++(qx (Aa lo u).own.n).map (Aa lo u).own.h))=Ed ((qx X.own.n).map X.own.h) (Aa lo u).own.h (Aa lo u).own.n:=M5 (Vo v.thr.own) _ _;refine(Xx E w B P s g ca q co lt lo t _ v.h v.e v.h14 v.hB v.ht X v.hX u ul _ eo (Cx v.ok) (El X.b1 X.c1 X.own (Aa lo u).b2 (Aa lo u).c2) (fun W hW=>LZ (v.xat.below hW).1 (v.xat.below hW).2.2 ((v.oat ul).2.2.2.1.below hW) v.thr.l1 v.thr.own (v.obj ul).l2) qQ qQ _ PT.symm).mono ?_;rintro e w' ⟨r,x,c',rfl,h1,h2,h3,h4⟩;refine⟨r,rfl,?_⟩;rcases h4 with⟨rfl,a1,rfl⟩|⟨rfl,a1,a2,rfl⟩|⟨rfl,a1,a2,a,cc,rfl⟩
 ·exact .no (.of h1.wk) h2 h3 qX (.k13 hk (.inr ⟨u,hu,.inl ⟨a1,rfl,rfl,rfl,rfl⟩⟩))
 ·exact .no (.of h1.wk) h2 h3 qX (.k13 hk (.inr ⟨u,hu,.inr (.inl ⟨a1,a2,rfl,rfl,rfl,rfl⟩)⟩))
 ·rcases h3 with⟨_,rfl⟩|⟨h,_⟩
  ·exact .yes h2 h1.f (.k13 hk (.inr ⟨u,hu,.inr (.inr ⟨a1,a2,rfl,rfl,a,cc,rfl,rfl⟩)⟩))
  ·exact absurd rfl h
end
theorem Ab.same.refl(t:Ab):t.same t:=⟨rfl,rfl,rfl,rfl,⟨rfl,rfl,rfl⟩,rfl,⟨rfl,rfl⟩,⟨rfl,rfl⟩,rfl,⟨rfl,rfl,rfl⟩⟩
theorem Ab.new.below{B:Nat}{w w':World}{t:Ab}(h:t.new B w)(hb:Below w w w'):t.new B w':=⟨h.1.below hb,h.2.1.below hb,h.2.2.1.below hb,h.2.2.2.below hb⟩
open Go.BigFrame
def Jm(l l2:List Ab):Prop:=l2.length=l.length/\∀j,j<l.length->(Aa l j).same (Aa l2 j)
theorem Jm.refl(l:List Ab):Jm l l:=⟨rfl,fun _ _=>Ab.same.refl _⟩
def PG(E:Nat->Addr)(B P:Nat)(s:Aj)(lt:List Ae)(lo:List Ab)(t:Nat)(X:Ae)(m:Value)(w w':World)(tx:ByteArray)(v:Value):Prop:=
 Below B w w'/\((KP w' P/\∃c,Told w' B E v c/\c≠0/\GC X s lt lo t c ⟨#[]⟩ lt lo)∨(v= .nilIface/\∃(g ca q co:Nat) (lt':List Ae) (lo' lo2:List Ab),Pk w' B P s g ca q co lt' lo' t m/\Jm lo' lo2/\GC X s lt lo t 0 tx lt' lo2))
theorem Kz.q{E:Nat->Addr}{B P:Nat}{s:Aj}{lt:List Ae}{lo:List Ab}{t:Nat}{X:Ae}{m:Value}{w w':World}{tx:ByteArray}{v:Value}(h:Kz E B P s lt lo t X m w w' tx v):PG E B P s lt lo t X m w w' tx v:=by
 refine⟨h.1,?_⟩;rcases h.2 with h|⟨h1,g,ca,q,co,lt',lo',h2,h3⟩
 ·exact .inl h
 ·exact .inr ⟨h1,g,ca,q,co,lt',lo',lo',h2,Jm.refl _,h3⟩
def Zk(E:Nat->Addr)(s:Aj):Prop:=∀{w:World}{B P g ca q co:Nat}{lt:List Ae}{lo:List Ab}{t c C:Nat}{nb:Nat->Nat}{kv:Nat->Value}{K:Nat->List Int}{X:Ae},Env E w B P s g ca q co lt lo t c C nb kv K X->18<=B->
 Calls prog 118 #[.pointer P] w fun e w'=>∃tx r,e= .returned (.tuple #[.string tx,r])/\PG E B P s lt lo t X (.map (some c)) w w' tx r
open Go.Value renaming int→iT
open Go.IntKind renaming i64→qH
open Go.World renaming ownsRow→qq
open _root_.List renaming length_set→kq,getElem_set_self→kG,set_set→xC
open _root_.Nat renaming lt_of_lt_of_le→qv,min_eq_left→zV
variable {w:World}{B q co n i e sz:Nat}{l:List Ab}
theorem AW.store(h:w.ownsRow B 59 10 (qV q n co) n (Ax l))(hi:i<l.length)(v:Ab):
 ((((((((((w.setCell ⟨q,i*10,none⟩ (iT qH v.id)).setCell ⟨q,i*10+1,none⟩ (iT qH v.kind)).setCell ⟨q,i*10+2,none⟩ (iT qH v.up)).setCell ⟨q,i*10+3,none⟩ (iT qH v.b1)).setCell ⟨q,i*10+4,none⟩ (qV v.c1.a v.c1.n v.c1.k)).setCell ⟨q,i*10+5,none⟩ (.string v.data)).setCell ⟨q,i*10+6,none⟩ (qV v.jA.a v.jA.n v.jA.k)).setCell ⟨q,i*10+7,none⟩ (qV v.own.a v.own.n v.own.k)).setCell ⟨q,i*10+8,none⟩ (iT qH v.b2)).setCell ⟨q,i*10+9,none⟩ (qV v.c2.a v.c2.n v.c2.k)).ownsRow B 59 10 (qV q n co) n (Ax (l.set i v)):=by
 obtain⟨o,ho⟩:∃o,o=l[i]:=⟨_,rfl⟩;have e0:=Dl (f:=Ab.cs) Ab.jK (l:=l) (t:=i) (x:=(⟨v.id,o.kind,o.up,o.b1,o.c1,o.data,o.jA,o.own,o.b2,o.c2⟩:Ab)) (u:= iT qH v.id) (i:=0) (by exact hi) qQ (by rw[<-ho];rfl);have h0:=(qq.stored h (i*10+0) (iT qH v.id)).1;rw[show Ax l=((l).map Ab.cs).flatten from rfl,e0]at h0;have e1:=Dl (f:=Ab.cs) Ab.jK (l:=(l.set i ⟨v.id,o.kind,o.up,o.b1,o.c1,o.data,o.jA,o.own,o.b2,o.c2⟩)) (t:=i) (x:=(⟨v.id,v.kind,o.up,o.b1,o.c1,o.data,o.jA,o.own,o.b2,o.c2⟩:Ab)) (u:= iT qH v.kind) (i:=1) (by rw[kq];exact hi) qQ (by simp only[kG];rfl);rw[xC]at e1;have h1:=(qq.stored h0 (i*10+1) (iT qH v.kind)).1;rw[e1]at h1;have e2:=Dl (f:=Ab.cs) Ab.jK (l:=(l.set i ⟨v.id,v.kind,o.up,o.b1,o.c1,o.data,o.jA,o.own,o.b2,o.c2⟩)) (t:=i) (x:=(⟨v.id,v.kind,v.up,o.b1,o.c1,o.data,o.jA,o.own,o.b2,o.c2⟩:Ab)) (u:= iT qH v.up) (i:=2) (by rw[kq];exact hi) qQ (by simp only[kG];rfl);rw[xC]at e2;have h2:=(qq.stored h1 (i*10+2) (iT qH v.up)).1;rw[e2]at h2;have e3:=Dl (f:=Ab.cs) Ab.jK (l:=(l.set i ⟨v.id,v.kind,v.up,o.b1,o.c1,o.data,o.jA,o.own,o.b2,o.c2⟩)) (t:=i) (x:=(⟨v.id,v.kind,v.up,v.b1,o.c1,o.data,o.jA,o.own,o.b2,o.c2⟩:Ab)) (u:= iT qH v.b1) (i:=3) (by rw[kq];exact hi) qQ (by simp only[kG];rfl);rw[xC]at e3;have h3:=(qq.stored h2 (i*10+3) (iT qH v.b1)).1;rw[e3]at h3;have e4:=Dl (f:=Ab.cs) Ab.jK (l:=(l.set i ⟨v.id,v.kind,v.up,v.b1,o.c1,o.data,o.jA,o.own,o.b2,o.c2⟩)) (t:=i) (x:=(⟨v.id,v.kind,v.up,v.b1,v.c1,o.data,o.jA,o.own,o.b2,o.c2⟩:Ab)) (u:= qV v.c1.a v.c1.n v.c1.k) (i:=4) (by rw[kq];exact hi) qQ (by simp only[kG];rfl);rw[xC]at e4;have h4:=(qq.stored h3 (i*10+4) (qV v.c1.a v.c1.n v.c1.k)).1;rw[e4]at h4;have e5:=Dl (f:=Ab.cs) Ab.jK (l:=(l.set i ⟨v.id,v.kind,v.up,v.b1,v.c1,o.data,o.jA,o.own,o.b2,o.c2⟩)) (t:=i) (x:=(⟨v.id,v.kind,v.up,v.b1,v.c1,v.data,o.jA,o.own,o.b2,o.c2⟩:Ab)) (u:= .string v.data) (i:=5) (by rw[kq];exact hi) qQ (by simp only[kG];rfl);rw[xC]at e5;have h5:=(qq.stored h4 (i*10+5) (.string v.data)).1;rw[e5]at h5;have e6:=Dl (f:=Ab.cs) Ab.jK (l:=(l.set i ⟨v.id,v.kind,v.up,v.b1,v.c1,v.data,o.jA,o.own,o.b2,o.c2⟩)) (t:=i) (x:=(⟨v.id,v.kind,v.up,v.b1,v.c1,v.data,v.jA,o.own,o.b2,o.c2⟩:Ab)) (u:= qV v.jA.a v.jA.n v.jA.k) (i:=6) (by rw[kq];exact hi) qQ (by simp only[kG];rfl);rw[xC]at e6;have h6:=(qq.stored h5 (i*10+6) (qV v.jA.a v.jA.n v.jA.k)).1;rw[e6]at h6;have e7:=Dl (f:=Ab.cs) Ab.jK (l:=(l.set i ⟨v.id,v.kind,v.up,v.b1,v.c1,v.data,v.jA,o.own,o.b2,o.c2⟩)) (t:=i) (x:=(⟨v.id,v.kind,v.up,v.b1,v.c1,v.data,v.jA,v.own,o.b2,o.c2⟩:Ab)) (u:= qV v.own.a v.own.n v.own.k) (i:=7) (by rw[kq];exact hi) qQ (by simp only[kG];rfl);rw[xC]at e7;have h7:=(qq.stored h6 (i*10+7) (qV v.own.a v.own.n v.own.k)).1;rw[e7]at h7;have e8:=Dl (f:=Ab.cs) Ab.jK (l:=(l.set i ⟨v.id,v.kind,v.up,v.b1,v.c1,v.data,v.jA,v.own,o.b2,o.c2⟩)) (t:=i) (x:=(⟨v.id,v.kind,v.up,v.b1,v.c1,v.data,v.jA,v.own,v.b2,o.c2⟩:Ab)) (u:= iT qH v.b2) (i:=8) (by rw[kq];exact hi) qQ (by simp only[kG];rfl);rw[xC]at e8;have h8:=(qq.stored h7 (i*10+8) (iT qH v.b2)).1;rw[e8]at h8;have e9:=Dl (f:=Ab.cs) Ab.jK (l:=(l.set i ⟨v.id,v.kind,v.up,v.b1,v.c1,v.data,v.jA,v.own,v.b2,o.c2⟩)) (t:=i) (x:=(⟨v.id,v.kind,v.up,v.b1,v.c1,v.data,v.jA,v.own,v.b2,v.c2⟩:Ab)) (u:= qV v.c2.a v.c2.n v.c2.k) (i:=9) (by rw[kq];exact hi) qQ (by simp only[kG];rfl);rw[xC]at e9;have h9:=(qq.stored h8 (i*10+9) (qV v.c2.a v.c2.n v.c2.k)).1;rw[e9]at h9;exact h9
theorem AW.cells(h:AW w B (qV q l.length co) l)(hi:i<l.length):Di w q (i*10) l[i]/\q<w.heap.size/\B<=q/\(∃cur,Ag w q (.cells cur 59)):=by
 obtain⟨b,off,e,hlt,hc⟩:=Bl.own h qQ;cases e;obtain⟨c0,c1,c2,c3,c4,c5,c6,c7,c8,c9⟩:=MV hi;have g:∀(j:Nat) (u:Value),(Ax l)[j]? =some u->w.cell? ⟨q,j,none⟩=some u:=fun j u hu=>by
  have:=hc j u hu;rw[Nat.zero_add]at this;exact this
 refine⟨⟨g _ _ c0,g _ _ c1,g _ _ c2,g _ _ c3,g _ _ c4,g _ _ c5,g _ _ c6,g _ _ c7,g _ _ c8,g _ _ c9⟩,hlt,?_⟩;rcases h.2 with⟨hv,_⟩|⟨g',cap,cur,hv,hB,hgg,_⟩
 ·cases hv
 ·cases hv;exact⟨hB,cur,hgg⟩
theorem Ux:∀(vs:List Value) (o:Nat) (w:World) (xs:List Value),w.ownsRow B e sz (qV q n co) n xs->∃xs',(w.setCells q o vs).ownsRow B e sz (qV q n co) n xs'/\xs'.take o=xs.take o/\w.grownBy (w.setCells q o vs) (some q)
 |[],o,w,xs,h=>⟨xs,h,rfl,⟨rfl,rfl,rfl,Nat.le_refl _,fun _ _ _=>rfl⟩⟩
 |v::r,o,w,xs,h=>by
  obtain⟨h1,g1⟩:=qq.stored h o v;obtain⟨xs',h2,h3,g2⟩:=Ux r (o+1) _ _ h1;refine⟨xs',h2,?_,⟨g2.os.trans g1.os,g2.tape.trans g1.tape,g2.output.trans g1.output,Nat.le_trans g1.size g2.size,fun k hk hne=>(g2.block k (qv hk g1.size) hne).trans (g1.block k hk hne)⟩⟩;have:=congrArg (List.take o) h3;rw[List.take_take,List.take_take,zV qQ]at this;rw[this,List.take_set_of_le qQ]
theorem bw{m:Nat}{xs ys:List Value}(h:w.ownsRow B e sz (qV q n co) n xs)(hm:m<=n)(hy:ys=xs.take (m*sz)):w.ownsRow B e sz (qV q m co) m ys:=by
 rcases h.2 with⟨hv,_⟩|⟨g',cap,cur,hv,hB,hgg,h1,h2,h3,h4⟩
 ·cases hv
 ·cases hv;have hmn:m*sz<=n*sz:=Nat.mul_le_mul_right _ hm;refine⟨by rw[hy,List.length_take,h.1];omega,.inr ⟨_,_,cur,rfl,hB,hgg,by omega,h2,h3,?_⟩⟩;rw[hy,<-h4,List.take_take,zV hmn]
theorem Ud(w:World)(b o n c:Nat)(hn:0<n)(hc:∀j,j<n*10->(w.cell? ⟨b,o+j,none⟩).isSome=true)(hf:∀j,j<n*10->w.frozen? ⟨b,o+j,none⟩=false):
 ∃vs,∀ty,(Builtin.clear_ #[25] ty #[qV (some ⟨b,o,none⟩) n c]).run prog w= .ok (.tuple #[]) (w.setCells b o vs):=by
 have n1:Na #[iT qH 0,iT qH 0,iT qH 0,iT qH 0,qV none 0 0,.string ⟨#[]⟩,qV none 0 0,qV none 0 0,iT qH 0,qV none 0 0]:=⟨⟩;have hl:(Builtin.zeroCells n1 n).toList.length=n*10:=by
  simp[Builtin.zeroCells]
 have h1:∀v∈(Builtin.zeroCells n1 n).toList,v.oneCell'=true:=fun v hv=>by
  simp only[Builtin.zeroCells,Array.toList_map,List.mem_map]at hv;obtain⟨i,_,rfl⟩:=hv;have hi:i%10<10:=Nat.mod_lt _ qX;show(#[Value.int .i64 0,iT qH 0,iT qH 0,iT qH 0,qV none 0 0,.string ⟨#[]⟩,qV none 0 0,qV none 0 0,iT qH 0,qV none 0 0][i%10]!).oneCell'=true;generalize i%10=k at *;rcases k with _|_|_|_|_|_|_|_|_|_|k;all_goals first|rfl|omega
 have hst:=run_storeCells_cells (P:=prog) b o _ 0 w (by rw[hl];simpa using hc) (by rw[hl];simpa using hf) h1;rw[Nat.add_zero]at hst;have hu:∀w,(underlying 25).run prog w= .ok (.slice 59) w:=fun w=>by simp[underlying,go_sem,underlying25]
 clear hl h1 hc hf;obtain⟨m,rfl⟩:∃m,n=m+1:=⟨n-1,by omega⟩;refine⟨(Builtin.zeroCells n1 (m+1)).toList,fun ty=>?_⟩;simp[Builtin.clear_,go_sem,hu,zeroValue59,Value.cells,hst]
theorem UQ(o:Ab)(vb ga:Nat)(G:AJ)(w:World)(hv:w.cell? ⟨vb,ga,none⟩=some (qV G.a G.n G.k))(hl:vb<w.heap.size)(hG:G.at w):
 Calls prog 177 #[.agg o,.pointer (some ⟨vb,ga,none⟩)] w fun e w'=>e= .returned (.bool (hasB G.n G.h o.id))/\Below w w w':=by
 have b0:Below w w (w.alloc (.cells o 59)):=Bg w _;have v0:=(b0.cell (p:=⟨vb,ga,none⟩) hl).trans hv;have CT:=qC (I3 G.a G.n G.k G.h o.id _ hG.1 (hG.below b0).2);have B0:=qC b0;clear b0 hG hv;go_enter func177,ntmps177
 go_wp2_with fail
 refine CT.out.mono ?_;rintro e w1 ⟨rfl,rfl⟩;go_wp2;go_ret;exact⟨rfl,B0⟩
theorem Wr(B q co vb:Nat)(l:List Ab)(G:AJ)(w:World)(h:AW w B (qV q l.length co) l)(hn:l.length<=1048576)(hv:w.cell? ⟨vb,0,none⟩=some (qV G.a G.n G.k))(hl:vb<w.heap.size)(hG:G.at w):
 Calls prog 200 #[qV q l.length co,.func (.func 177) #[] #[.pointer vb]] w fun e w'=>Below w w w'/\((e= .returned (iT qH (-1))/\∀x∈l,hasB G.n G.h x.id=false)∨∃i,i<l.length/\e= .returned (iT qH i)/\(∀x∈l.take i,hasB G.n G.h x.id=false)/\hasB G.n G.h (Aa l i).id=true):=by
 have HO:=qC h;have HG:=qC hG;have HV:=qC hv;clear h hG hv;go_enter func200,ntmps200
 go_wp2;go_loopw [8] (fun i wr=>∃k:Nat,k<=l.length/\i= iT qH k/\Hid (Below w w wr)/\Hid (∀x∈l.take k,hasB G.n G.h x.id=false)) (fun i _=>l.length-(intOf i).toNat)
 case atStart=>exact⟨0,Nat.zero_le _,rfl,qC (Below.refl _ _),qC (fun x hx=>by simp at hx)⟩
 case round=>
  obtain⟨k,hk,rfl,BW,NG⟩:=hrel;by_cases hlt:k<l.length
  ·have i1:(k:Int)<(l.length:Int):=qQ;have i0:(0:Int)<=(k:Int):=qQ;obtain⟨CC,ql,_⟩:=AW.cells (AW.below HO BW) hlt;have q0:wr.cell? ⟨q,k*10,none⟩=some (iT qH l[k].id):=CC.c0;have q1:wr.cell? ⟨q,k*10+1,none⟩=some (iT qH l[k].kind):=CC.c1;have q2:wr.cell? ⟨q,k*10+2,none⟩=some (iT qH l[k].up):=CC.c2;have q3:wr.cell? ⟨q,k*10+3,none⟩=some (iT qH l[k].b1):=CC.c3;have q4:wr.cell? ⟨q,k*10+4,none⟩=some (qV l[k].c1.a l[k].c1.n l[k].c1.k):=CC.c4;have q5:wr.cell? ⟨q,k*10+5,none⟩=some (.string l[k].data):=CC.c5;have q6:wr.cell? ⟨q,k*10+6,none⟩=some (qV l[k].jA.a l[k].jA.n l[k].jA.k):=CC.c6;have q7:wr.cell? ⟨q,k*10+7,none⟩=some (qV l[k].own.a l[k].own.n l[k].own.k):=CC.c7;have q8:wr.cell? ⟨q,k*10+8,none⟩=some (iT qH l[k].b2):=CC.c8;have q9:wr.cell? ⟨q,k*10+9,none⟩=some (qV l[k].c2.a l[k].c2.n l[k].c2.k):=CC.c9;have GA:=qC (UQ l[k] vb 0 G wr ((BW.out.cell (p:=⟨vb,0,none⟩) hl).trans HV) (qv hl BW.out.size) (HG.out.below BW));clear CC;go_wp2_with fail
   refine GA.out.mono ?_;rintro e w1 ⟨rfl,b1⟩;have B1:=qC (Af BW b1);clear b1 q0 q1 q2 q3 q4 q5 q6 q7 q8 q9 GA;cases hg:hasB G.n G.h l[k].id with
   |true=>
    go_wp2;go_ret;refine⟨B1,.inr ⟨k,hlt,rfl,NG,?_⟩⟩;rw[AL hlt];exact hg
   |false=>
    go_wp2;go_roundw;case rel=>
     refine⟨k+1,by omega,by go_num,B1,qC (fun x hx=>?_)⟩;rw[List.take_add_one,List.getElem?_eq_getElem hlt]at hx;rcases List.mem_append.1 hx with hx|hx
     ·exact NG.out x hx
     ·simp at hx;rw[hx];exact hg
    case measure=>simp[intOf];omega
  ·have i1:¬(k:Int)<(l.length:Int):=qQ;go_wp2;go_ret;refine⟨BW,.inl ⟨rfl,fun x hx=>NG x ?_⟩⟩;rw[List.take_of_length_le qQ];exact hx
open _root_.List renaming getElem?_eq_getElem→jM,length_take→xx,take_of_length_le→zN,take_add_one→zM
open _root_.Nat renaming le_trans→qj
open _root_.Option renaming some→jV
variable {G:AJ}{l L:List Ab}{k q B co p:Nat}{w w1 w2 wr:World}
def GN(G:AJ)(l:List Ab):List Ab:=l.filter (fun o=> !hasB G.n G.h o.id)
theorem Pp(h:∀x∈l,hasB G.n G.h x.id=false):GN G l=l:=List.filter_eq_self.2 (fun x hx=>by rw[h x hx];rfl)
theorem Lf(hk:k<l.length):GN G (l.take (k+1))=GN G (l.take k)++(if hasB G.n G.h l[k].id=true then[]else[l[k]]):=by
 unfold GN;rw[zM,jM hk,List.filter_append];cases hh:hasB G.n G.h l[k].id<;>simp[hh]
theorem Sa(L:List Ab)(p:Nat)(hp:p<=L.length):(Ax L).take (p*10)=Ax (L.take p):=by
 have e:Ax L=Ax (L.take p)++Ax (L.drop p):=by rw[<-Js,List.take_append_drop]
 have hl:(Ax (L.take p)).length=p*10:=by rw[GV,xx,zV hp]
 rw[e,List.take_append_of_le_length qQ,zN qQ]
theorem FM{row:Option Nat}(h:w.grownBy w1 row)(hb:Below w1 w1 w2):w.grownBy w2 row:=
 ⟨hb.os.trans h.os,hb.tape.trans h.tape,hb.output.trans h.output,qj h.size hb.size,fun k hk hne=>(hb.block k (qv hk h.size)).trans (h.block k hk hne)⟩
theorem Au(h:w.grownBy w1 (some q))(i:Nat)(v:Value):w.grownBy (w1.setCell ⟨q,i,none⟩ v) (some q):=
 ⟨h.os,h.tape,h.output,by simpa[World.setCell]using h.size,fun k hk hne=>(Below.heap_setCell _ _ _ _ (fun(e:k=q)=>hne (by rw[e]))).trans (h.block k hk hne)⟩
structure Qe(B q co:Nat)(l:List Ab)(G:AJ)(w wr:World)(p k:Nat)(L:List Ab):Prop where
 pk:p<k
 kn:k<=l.length
 len:L.length=l.length
 own:AW wr B (qV q L.length co) L
 fst:L.take p=GN G (l.take k)
 rst:L.drop k=l.drop k
 gr:w.grownBy wr (some q)
theorem Qe.at(h:Qe B q co l G w wr p k L)(hk:k<l.length):L[k]'(by rw[h.len];exact hk)=l[k]:=by
 have h1:=congrArg (fun x=>x[0]?) h.rst;simp only[List.getElem?_drop,Nat.add_zero]at h1;rw[jM (by rw[h.len];exact hk),jM hk]at h1;exact jV.inj h1
theorem Qe.skip{w':World}(h:Qe B q co l G w wr p k L)(hk:k<l.length)(hg:hasB G.n G.h l[k].id=true)(hb:Below wr wr w'):Qe B q co l G w w' p (k+1) L:=
 ⟨by have:=h.pk;omega,hk,h.len,h.own.below hb,by rw[Lf hk,hg,h.fst];simp,by rw[<-List.drop_drop,h.rst,List.drop_drop],FM h.gr hb⟩
theorem Qe.keep(h:Qe B q co l G w wr p k L)(hk:k<l.length)(hg:hasB G.n G.h l[k].id=false)(ho:w2.ownsRow B 59 10 (qV q L.length co) L.length (Ax (L.set p l[k])))(hgr:w.grownBy w2 (some q)):Qe B q co l G w w2 (p+1) (k+1) (L.set p l[k]):=
 ⟨by have:=h.pk;omega,hk,by rw[kq];exact h.len,by unfold AW;rw[kq];exact ho,by
   have pl:p<L.length:=(by have:=h.pk;rw[h.len];omega);rw[Lf hk,hg,zM,List.take_set_of_le nr,h.fst];simp[pl],by rw[List.drop_set_of_lt (by have:=h.pk;omega),<-List.drop_drop,h.rst,List.drop_drop],hgr⟩
theorem Uy(B q co vb:Nat)(l:List Ab)(G:AJ)(w:World)(h:AW w B (qV q l.length co) l)(hn:l.length<=1048576)(hv:w.cell? ⟨vb,0,none⟩=some (qV G.a G.n G.k))(hl:vb<w.heap.size)(hvq:vb≠q)(hG:∀W,w.grownBy W (some q)->G.at W):
 Calls prog 176 #[qV q l.length co,.func (.func 177) #[] #[.pointer vb]] w fun e w'=>e= .returned (qV q (GN G l).length co)/\AW w' B (qV q (GN G l).length co) (GN G l)/\w.grownBy w' (some q):=by
 have g0:w.grownBy w (some q):=⟨rfl,rfl,rfl,Nat.le_refl _,fun _ _ _=>rfl⟩;have IXF:=qC (Wr B q co vb l G w h hn hv hl (hG w g0));have HO:=qC h;have HG:=qC hG;have HV:=qC hv;have cap:=(Dj h).1;have caM:=(Dj h).2;have G0:=qC g0;clear h hG hv g0;go_enter func176,ntmps176
 go_wp2_with fail
 refine IXF.out.mono ?_;rintro e w1 ⟨b1,hr⟩;have B1:=qC b1;clear IXF b1;rcases hr with⟨rfl,hall⟩|⟨i,hi,rfl,hno,hyes⟩
 ·have EK:Hid (GN G l=l):=qC (Pp hall);clear hall;go_wp2;go_ret;rw[EK.out];exact⟨rfl,HO.out.below B1,FM G0 B1⟩
 ·have i1:¬(i:Int)= -1:=by omega
  have i2:((i:Int)== -1)=false:=beq_eq_false_iff_ne.2 i1;have wr1:IntKind.i64.wrap ((i:Int)+1)=(i:Int)+1:=by rw[IntKind.wrap_i64];omega
  have ST:Hid (Qe B q co l G w w1 i (i+1) l):=qC ⟨Nat.lt_succ_self _,hi,rfl,HO.out.below B1,by
   rw[Lf hi,Pp hno];rw[AL hi]at hyes;rw[hyes];simp,rfl,FM G0 B1⟩
  clear hno hyes;go_wp2;go_loopw [5,6] (fun a b wr=>∃(p k:Nat) (L:List Ab),a= .int .i64 p/\b= .int .i64 k/\Hid (Qe B q co l G w wr p k L)) (fun _ b _=>l.length-(intOf b).toNat)
  case atStart=>exact⟨i,i+1,l,rfl,by first|rfl|go_num,ST⟩
  case round=>
   clear ST;obtain⟨p,k,L,rfl,rfl,DI⟩:=hrel;have pk:=DI.out.pk;have kn:=DI.out.kn;have len:=DI.out.len;by_cases hlt:k<l.length
   ·have j1:(k:Int)<(l.length:Int):=qQ;have j0:(0:Int)<=(k:Int):=qQ;have p0:(0:Int)<=(p:Int):=qQ;have p1:(p:Int)<(l.length:Int):=qQ;have hkL:k<L.length:=qQ;have hpL:p<L.length:=qQ;obtain⟨CC,ql,hBq,cur,hcur⟩:=AW.cells DI.out.own hkL;have ek:=DI.out.at hlt;rw[ek]at CC;obtain⟨o,ho⟩:∃o,o=l[k]:=⟨_,rfl⟩;rw[<-ho]at CC;have HK:=qC ho;have q0:wr.cell? ⟨q,k*10,none⟩=some (.int .i64 o.id):=CC.c0;have q1:wr.cell? ⟨q,k*10+1,none⟩=some (.int .i64 o.kind):=CC.c1;have q2:wr.cell? ⟨q,k*10+2,none⟩=some (.int .i64 o.up):=CC.c2;have q3:wr.cell? ⟨q,k*10+3,none⟩=some (.int .i64 o.b1):=CC.c3;have q4:wr.cell? ⟨q,k*10+4,none⟩=some (qV o.c1.a o.c1.n o.c1.k):=CC.c4;have q5:wr.cell? ⟨q,k*10+5,none⟩=some (.string o.data):=CC.c5;have q6:wr.cell? ⟨q,k*10+6,none⟩=some (qV o.jA.a o.jA.n o.jA.k):=CC.c6;have q7:wr.cell? ⟨q,k*10+7,none⟩=some (qV o.own.a o.own.n o.own.k):=CC.c7;have q8:wr.cell? ⟨q,k*10+8,none⟩=some (.int .i64 o.b2):=CC.c8;have q9:wr.cell? ⟨q,k*10+9,none⟩=some (qV o.c2.a o.c2.n o.c2.k):=CC.c9;have n1:No (.cells o 59):=⟨⟩;have BA:Below wr wr (wr.alloc n1):=Bg wr _;have gr:=FM DI.out.gr BA;have vc:(wr.alloc n1).cell? ⟨vb,0,none⟩=some (qV G.a G.n G.k):=(World.cell?_of_block (a:=⟨vb,0,none⟩) (gr.block vb hl (fun e=>hvq (jV.inj e)))).trans HV.out;have GA:=qC (UQ o vb 0 G _ vc (qv hl gr.size) (HG _ gr));have BD:=qC BA;have AB:=qC (Ag.new wr n1);have OWA:=qC (DI.out.own.below BA);clear CC ek ho BA gr vc cur hcur;go_wp2_with fail
    refine GA.out.mono ?_;rintro e w2 ⟨rfl,b2⟩;have B2:=qC (Af BD b2);have A2:=qC (AB.out.below b2);clear b2 q0 q1 q2 q3 q4 q5 q6 q7 q8 q9 GA;cases hg:hasB G.n G.h o.id with
    |true=>
     have DN:=qC (DI.out.skip hlt (by rw[<-HK.out];exact hg) B2);clear hg;have wk1:IntKind.i64.wrap ((k:Int)+1)=(k:Int)+1:=(by rw[IntKind.wrap_i64];omega);go_wp2;go_roundw;case rel=>exact⟨p,k+1,L,rfl,by first|rfl|go_num,DN⟩
     case measure=>simp[intOf];omega
    |false=>
     obtain⟨x0,x1,x2,x3,x4,x5,x6,x7,x8,x9⟩:=A2.out.jE;have O2:=DI.out.own.below B2.out;obtain⟨CP,_,_,cur,hcur⟩:=AW.cells O2 hpL;obtain⟨o2,ho2⟩:∃o2,o2=L[p]:=⟨_,rfl⟩;rw[<-ho2]at CP;have y0:w2.cell? ⟨q,p*10,none⟩=some (.int .i64 o2.id):=CP.c0;have y1:w2.cell? ⟨q,p*10+1,none⟩=some (.int .i64 o2.kind):=CP.c1;have y2:w2.cell? ⟨q,p*10+2,none⟩=some (.int .i64 o2.up):=CP.c2;have y3:w2.cell? ⟨q,p*10+3,none⟩=some (.int .i64 o2.b1):=CP.c3;have y4:w2.cell? ⟨q,p*10+4,none⟩=some (qV o2.c1.a o2.c1.n o2.c1.k):=CP.c4;have y5:w2.cell? ⟨q,p*10+5,none⟩=some (.string o2.data):=CP.c5;have y6:w2.cell? ⟨q,p*10+6,none⟩=some (qV o2.jA.a o2.jA.n o2.jA.k):=CP.c6;have y7:w2.cell? ⟨q,p*10+7,none⟩=some (qV o2.own.a o2.own.n o2.own.k):=CP.c7;have y8:w2.cell? ⟨q,p*10+8,none⟩=some (.int .i64 o2.b2):=CP.c8;have y9:w2.cell? ⟨q,p*10+9,none⟩=some (qV o2.c2.a o2.c2.n o2.c2.k):=CP.c9;have gf:=hcur.jC;have OS:=qC (AW.store O2 hpL o);have GR:=qC (FM DI.out.gr B2);have HGF:=qC hg;clear CP ho2 hg O2;have wk1:IntKind.i64.wrap ((k:Int)+1)=(k:Int)+1:=(by rw[IntKind.wrap_i64];omega);have wp1:IntKind.i64.wrap ((p:Int)+1)=(p:Int)+1:=(by rw[IntKind.wrap_i64];omega);go_wp2;go_roundw;case rel=>
      refine⟨p+1,k+1,L.set p o,by first|rfl|go_num,by first|rfl|go_num,qC ?_⟩;have hk':=HK.out;subst hk';exact DI.out.keep hlt HGF OS (Au (Au (Au (Au (Au (Au (Au (Au (Au (Au GR _ _) _ _) _ _) _ _) _ _) _ _) _ _) _ _) _ _) _ _)
     case measure=>simp[intOf];omega
   ·have ek:k=l.length:=qQ;have j1:¬(k:Int)<(l.length:Int):=qQ;have pL:p<=L.length:=qQ;have FS:=qC DI.out.fst;obtain⟨vs,hcl⟩:∃vs,∀ty,(Builtin.clear_ #[25] ty #[qV (some ⟨q,p*10,none⟩) (l.length-p) (co-p)]).run prog wr= .ok (.tuple #[]) (wr.setCells q (p*10) vs):=by
     obtain⟨b,off,e,hlt',hc⟩:=Bl.own DI.out.own qQ;cases e;have cc:∀j,j<(l.length-p)*10->(wr.cell? ⟨q,p*10+j,none⟩).isSome=true:=fun j hj=>by
      have hjl:p*10+j<(Ax L).length:=(by rw[GV,len];omega);have:=hc (p*10+j) _ (jM hjl);rw[Nat.zero_add]at this;rw[this];rfl
     have ff:∀j,j<(l.length-p)*10->wr.frozen? ⟨q,p*10+j,none⟩=false:=fun j hj=>by
      obtain⟨_,_,_,cur,hcur⟩:=AW.cells DI.out.own (i:=0) qQ;exact hcur.jC _
     exact Ud wr q (p*10) (l.length-p) (co-p) qQ cc ff
    obtain⟨xs',h2,h3,g2⟩:=Ux vs (p*10) wr _ DI.out.own;have OW:Hid (AW (wr.setCells q (p*10) vs) B (qV q (GN G l).length co) (GN G l)):=qC (by
     have ef:L.take p=GN G l:=(by rw[FS.out,ek,zN nr]);have el:(GN G l).length=p:=(by rw[<-ef,xx,zV pL]);unfold AW;rw[el];exact bw h2 pL (by rw[h3,Sa L p pL,ef]))
    have EL:Hid ((GN G l).length=p):=qC (by
     have ef:L.take p=GN G l:=(by rw[FS.out,ek,zN nr]);rw[<-ef,xx,zV pL])
    have GR:Hid (w.grownBy (wr.setCells q (p*10) vs) (some q)):=qC ⟨g2.os.trans DI.out.gr.os,g2.tape.trans DI.out.gr.tape,g2.output.trans DI.out.gr.output,qj DI.out.gr.size g2.size,fun k hk hne=>(g2.block k (qv hk DI.out.gr.size) hne).trans (DI.out.gr.block k hk hne)⟩;have p1:(p:Int)<=(l.length:Int):=qQ;have p2:p<=l.length:=qQ;have p3:p<=co:=qQ;have p4:(0:Int)<=(p:Int):=qQ;have p5:¬co=p:=qQ;have p6:(p:Int)<=(co:Int):=qQ;have p7:(l.length:Int)<=(co:Int):=qQ;clear h2 h3 g2;go_wp2;go_ret;rw[EL.out]at OW ⊢;exact⟨rfl,OW,GR⟩
end Go.Proofs.YtdaccbddcjlkpaaGreatDoor
