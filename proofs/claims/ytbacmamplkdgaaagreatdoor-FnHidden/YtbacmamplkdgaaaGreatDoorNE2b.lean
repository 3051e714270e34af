import Derived.Test.YtbacmamplkdgaaaGreatDoorZ15b
import Derived.Test.YtbacmamplkdgaaaGreatDoorNC8b
import Derived.Test.YtbacmamplkdgaaaGreatDoorND1b
import Derived.Test.YtbacmamplkdgaaaGreatDoorND2b
import Derived.Test.YtbacmamplkdgaaaGreatDoorNU1b
namespace Go.Proofs.YtbacmamplkdgaaaGreatDoor
open Go Go.RowKit Go.Deep Go.Maps
def Self1(X:ThrV)(c:Int)(tx:ByteArray)(x:ThrV):Prop:=(c=5∧(X.made=30∨X.own.n=10)∧x=X∧tx=⟨#[]⟩)∨(c=0∧¬(X.made=30∨X.own.n=10)∧tx=⟨(decL (newCat X).toNat).toArray⟩∧∃(a:Option Addr) (cc:Nat),x=⟨X.id,X.b1,X.c1,X.b2,X.c2,⟨a,(putL ((List.range X.own.n).map X.own.h) (newCat X)).length,cc,nthI (putL ((List.range X.own.n).map X.own.h) (newCat X))⟩,X.made+1⟩)
def Self12(X:ThrV)(s:StepV)(c:Int)(x:ThrV):Prop:=(c=4∧raiseB X s=false∧x=X)∨(c=0∧raiseB X s=true∧∃d:CatL,s.c1.same d∧x=⟨X.id,s.b1,d,X.b2,X.c2,X.own,X.made⟩)
def Self14(X:ThrV)(s:StepV)(c:Int)(x:ThrV):Prop:=(c=4∧hasB X.own.n X.own.h s.cat=false∧x=X)∨(c=0∧hasB X.own.n X.own.h s.cat=true∧∃(a:Option Addr) (cc:Nat),x=⟨X.id,X.b1,X.c1,X.b2,X.c2,⟨a,(leftL X.own.h s.cat X.own.n).length,cc,nthI (leftL X.own.h s.cat X.own.n)⟩,X.made⟩)
inductive ActP(X:ThrV) (s:StepV) (lt:List ThrV) (lo:List ObjV) (t:Nat) (c:Int) (tx:ByteArray) (lt':List ThrV) (lo':List ObjV):Prop
 |k1 (h:s.kind=1) (x:ThrV) (e1:lt'=lt.set t x) (e2:lo'=lo) (p:Self1 X c tx x)
 |k12 (h:s.kind=12) (x:ThrV) (e1:lt'=lt.set t x) (e2:lo'=lo) (e3:tx=⟨#[]⟩) (p:Self12 X s c x)
 |k14 (h:s.kind=14) (x:ThrV) (e1:lt'=lt.set t x) (e2:lo'=lo) (e3:tx=⟨#[]⟩) (p:Self14 X s c x)
 |make (h:s.kind=2∨s.kind=3∨s.kind=4∨s.kind=5) (p:MakeP X s lt lo t c tx lt' lo')
 |drop (h:s.kind=11) (e1:lt'=lt) (e3:tx=⟨#[]⟩) (p:DropP X s lo c lo')
 |k6 (h:s.kind=6) (p:Use6 X s lt lo t c tx lt' lo')
 |k7 (h:s.kind=7) (p:Use7 X s lt lo t c tx lt' lo')
 |k8 (h:s.kind=8) (p:Use8 X s lt lo t c tx lt' lo')
 |k9 (h:s.kind=9) (p:Use9 X s lt lo t c tx lt' lo')
 |k10 (h:s.kind=10) (p:Use10 X s lt lo t c tx lt' lo')
 |k13 (h:s.kind=13) (p:Use13 X s lt lo t c tx lt' lo')
 |k15 (h:s.kind=15) (p:Use15 X s lt lo t c tx lt' lo')
theorem KSt.len{w:World}{B n m ca co:Nat}{ta oa:Option Addr}{lt:List ThrV}{lo:List ObjV}(h:KSt w B (.slice ta n ca) (.slice oa m co) lt lo):n=lt.length∧m=lo.length:=by
 obtain⟨a,c,e⟩:=OwnT.shape h.t;obtain⟨a',c',e'⟩:=OwnOb.shape h.o;cases e;cases e';exact⟨rfl,rfl⟩
def ResP(B:Nat)(w:World)(lt:List ThrV)(lo:List ObjV)(X:ThrV)(s:StepV)(t:Nat)(e:Ending)(w':World):Prop:=
 ∃(lt':List ThrV) (lo':List ObjV) (ta:Option Addr) (ca:Nat) (oa:Option Addr) (co:Nat) (c:Int) (tx:ByteArray),e= .returned (.tuple #[.agg #[.slice ta lt'.length ca,.slice oa lo'.length co],.int .i64 c,.string tx])∧KSt w' B (.slice ta lt'.length ca) (.slice oa lo'.length co) lt' lo'∧Below B w w'∧ActP X s lt lo t c tx lt' lo'
theorem resP_of{B:Nat}{w w':World}{lt lt':List ThrV}{lo lo':List ObjV}{X:ThrV}{s:StepV}{t:Nat}{e:Ending}{ta oa:Option Addr}{n m ca co:Nat}{c:Int}{tx:ByteArray}(h:e= .returned (.tuple #[.agg #[.slice ta n ca,.slice oa m co],.int .i64 c,.string tx]))(k:KSt w' B (.slice ta n ca) (.slice oa m co) lt' lo')(b:Below B w w')(a:ActP X s lt lo t c tx lt' lo'):ResP B w lt lo X s t e w':=by
 obtain⟨rfl,rfl⟩:=k.len;exact⟨lt',lo',ta,ca,oa,co,c,tx,h,k,b,a⟩
theorem self_act(lt:List ThrV)(lo:List ObjV)(g ca q co B:Nat)(w:World)(st:KSt w B (.slice (some ⟨g,0,none⟩) lt.length ca) (.slice (some ⟨q,0,none⟩) lo.length co) lt lo)(hB:B≤w.heap.size)(ok:okL lt lo=true)(t:Nat)(ht:t<lt.length)(s:StepV)(hs:∀W,Below B w W→s.at W)(so:s.ok=true)(hk:s.kind=1∨s.kind=12∨s.kind=14):Calls Tryz.prog 137 #[.agg #[.slice (some ⟨g,0,none⟩) lt.length ca,.slice (some ⟨q,0,none⟩) lo.length co],.int .i64 t,.agg #[.int .i64 s.th,.int .i64 s.kind,.int .i64 s.id,.int .i64 s.to,.int .i64 s.cat,.string s.data,.int .i64 s.b1,.slice s.c1.a s.c1.n s.c1.k,.int .i64 s.b2,.slice s.c2.a s.c2.n s.c2.k]] w (ResP B w lt lo lt[t] s t):=by
 have X:=okL_thr ok _ (List.getElem_mem ht);have sf:=stepF so;have sa:s.at w:=hs w (Below.refl _ _);rcases hk with hk|hk|hk
 ·refine(l4Self_cat lt lo g ca (some ⟨q,0,none⟩) co B w st hB t ht _ rfl X.small s hk X.id X.made (own_n X.own)).mono ?_;rintro e w' ⟨x,c,tx,e1,k1,b1,p⟩;exact resP_of e1 k1 b1 (.k1 hk x rfl rfl p)
 ·refine(l4Self_raise lt lo g ca (some ⟨q,0,none⟩) co B w st hB t ht _ rfl X.small s sa hk (by have:=(lab_rise sf.l1).2;omega) (lab_rise X.l1).1 (lab_rise X.l2).1 (lab_rise sf.l1).1).mono ?_;rintro e w' ⟨x,c,e1,k1,b1,p⟩;exact resP_of e1 k1 b1 (.k12 hk x rfl rfl rfl p)
 ·refine(l4Self_leave lt lo g ca (some ⟨q,0,none⟩) co B w st hB t ht _ rfl X.small s hk).mono ?_;rintro e w' ⟨x,c,e1,k1,b1,p⟩;exact resP_of e1 k1 b1 (.k14 hk x rfl rfl rfl p)
theorem cat_of{s:StepV}(sf:StepF s):((s.kind=2∨s.kind=3∨s.kind=4)→s.cat=0)∧(s.kind=5→0≤s.cat):=by
 have h:=sf.cat;unfold catB uCat at h;constructor
 ·intro hk;by_cases e:s.cat=0
  ·exact e
  ·have e1:(s.cat==0)=false:=(by simpa using e);rw[e1]at h;rcases hk with hk|hk|hk<;>(rw[hk]at h;simp at h)
 ·intro hk;by_cases e:s.cat=0
  ·omega
  ·have e1:(s.cat==0)=false:=(by simpa using e);rw[e1,hk]at h;simp[inB]at h;omega
theorem okL_lab{lt:List ThrV}{lo:List ObjV}(ok:okL lt lo=true):∀x∈lo,x.c1.n≤1048576∧RiseL x.c1:=fun x hx=>by
 have h:=lab_rise (okL_obj ok x hx).l1;exact⟨by have:=h.2;omega,h.1⟩
theorem okL_lab2{lt:List ThrV}{lo:List ObjV}(ok:okL lt lo=true):∀x∈lo,x.c2.n≤1048576∧RiseL x.c2:=fun x hx=>by
 have h:=lab_rise (okL_obj ok x hx).l2;exact⟨by have:=h.2;omega,h.1⟩
theorem make_act(lt:List ThrV)(lo:List ObjV)(g ca q co B:Nat)(w:World)(st:KSt w B (.slice (some ⟨g,0,none⟩) lt.length ca) (.slice (some ⟨q,0,none⟩) lo.length co) lt lo)(hB:B≤w.heap.size)(ok:okL lt lo=true)(t:Nat)(ht:t<lt.length)(s:StepV)(hs:∀W,Below B w W→s.at W)(so:s.ok=true)(hk:s.kind=2∨s.kind=3∨s.kind=4∨s.kind=5):Calls Tryz.prog 138 #[.agg #[.slice (some ⟨g,0,none⟩) lt.length ca,.slice (some ⟨q,0,none⟩) lo.length co],.int .i64 t,.agg #[.int .i64 s.th,.int .i64 s.kind,.int .i64 s.id,.int .i64 s.to,.int .i64 s.cat,.string s.data,.int .i64 s.b1,.slice s.c1.a s.c1.n s.c1.k,.int .i64 s.b2,.slice s.c2.a s.c2.n s.c2.k]] w (ResP B w lt lo lt[t] s t):=by
 have X:=okL_thr ok _ (List.getElem_mem ht);have sf:=stepF so;have n1:=okL_tn ok;have n2:=okL_on ok;refine(l4Make_any lt lo g ca q co B w st hB t ht _ rfl X.small s hs (by have:=(lab_rise sf.l1).2;omega) (by have:=(lab_rise sf.l2).2;omega) (lab_rise X.l1).1 (lab_rise X.l2).1 (lab_rise sf.l1).1 X.id X.made (by omega) (by omega) (okL_data ok) (okL_lab ok) ?_).mono ?_
 ·rcases hk with h|h|h|h
  ·exact .inl ⟨.inl h,(cat_of sf).1 (.inl h)⟩
  ·exact .inl ⟨.inr (.inl h),(cat_of sf).1 (.inr (.inl h))⟩
  ·exact .inl ⟨.inr (.inr h),(cat_of sf).1 (.inr (.inr h))⟩
  ·exact .inr ⟨h,(cat_of sf).2 h⟩
 ·rintro e w' ⟨lt',lo',ob,cb,c,tx,e1,k1,b1,p⟩;exact resP_of e1 k1 b1 (.make hk p)
theorem drop_act(lt:List ThrV)(lo:List ObjV)(g ca q co B:Nat)(w:World)(st:KSt w B (.slice (some ⟨g,0,none⟩) lt.length ca) (.slice (some ⟨q,0,none⟩) lo.length co) lt lo)(hB:B≤w.heap.size)(ok:okL lt lo=true)(t:Nat)(ht:t<lt.length)(s:StepV)(_hs:∀W,Below B w W→s.at W)(_so:s.ok=true)(hk:s.kind=11):Calls Tryz.prog 139 #[.agg #[.slice (some ⟨g,0,none⟩) lt.length ca,.slice (some ⟨q,0,none⟩) lo.length co],.int .i64 t,.agg #[.int .i64 s.th,.int .i64 s.kind,.int .i64 s.id,.int .i64 s.to,.int .i64 s.cat,.string s.data,.int .i64 s.b1,.slice s.c1.a s.c1.n s.c1.k,.int .i64 s.b2,.slice s.c2.a s.c2.n s.c2.k]] w (ResP B w lt lo lt[t] s t):=by
 have X:=okL_thr ok _ (List.getElem_mem ht);have n1:=okL_tn ok;have n2:=okL_on ok;refine(l4Drop_any lt lo g ca q co B w st hB t ht _ rfl X.small s (lab_rise X.l1).1 (by omega) (by omega) (okL_data ok) (okL_lab ok) ok).mono ?_;rintro e w' ⟨lo',ob,cb,c,e1,k1,b1,p⟩;exact resP_of e1 k1 b1 (.drop hk rfl rfl p)
theorem use_act(lt:List ThrV)(lo:List ObjV)(g ca q co B:Nat)(w:World)(st:KSt w B (.slice (some ⟨g,0,none⟩) lt.length ca) (.slice (some ⟨q,0,none⟩) lo.length co) lt lo)(hB:B≤w.heap.size)(ok:okL lt lo=true)(t:Nat)(ht:t<lt.length)(s:StepV)(hs:∀W,Below B w W→s.at W)(_so:s.ok=true)(hk:s.kind=6∨s.kind=7∨s.kind=8∨s.kind=9∨s.kind=10∨s.kind=13∨s.kind=15):Calls Tryz.prog 140 #[.agg #[.slice (some ⟨g,0,none⟩) lt.length ca,.slice (some ⟨q,0,none⟩) lo.length co],.int .i64 t,.agg #[.int .i64 s.th,.int .i64 s.kind,.int .i64 s.id,.int .i64 s.to,.int .i64 s.cat,.string s.data,.int .i64 s.b1,.slice s.c1.a s.c1.n s.c1.k,.int .i64 s.b2,.slice s.c2.a s.c2.n s.c2.k]] w (ResP B w lt lo lt[t] s t):=by
 have X:=okL_thr ok _ (List.getElem_mem ht);have n1:=okL_tn ok;have n2:=okL_on ok;have hI:∀x∈lo,x.items.n≤8:=fun x hx=>(okL_items ok x hx).1;have hW:∀x∈lo,x.own.n≤10:=fun x hx=>own_n (okL_obj ok x hx).own;have hx:=own_n X.own;refine(l4Use_any lt lo g ca q co B w st hB t ht _ rfl X.small s hs (lab_rise X.l1).1 (by omega) (by omega) (okL_data ok) (okL_lab ok) (fun x hx=>by have:=hI x hx;omega) (by omega) (okL_id ok) (okL_lab2 ok) (fun x hx=>by have:=hW x hx;omega) (by omega) hk).mono ?_;rintro e w' ⟨lt',lo',c,tx,e1,k1,b1,p⟩;refine resP_of e1 k1 b1 ?_;cases p with
 |no h hc ht e1 e2=>
  rcases hk with hk|hk|hk|hk|hk|hk|hk
  ·exact .k6 hk (.inl ⟨by rw[hk]at h;exact h,hc,ht,e1,e2⟩)
  ·exact .k7 hk (.inl ⟨by rw[hk]at h;exact h,hc,ht,e1,e2⟩)
  ·exact .k8 hk (.inl ⟨by rw[hk]at h;exact h,hc,ht,e1,e2⟩)
  ·exact .k9 hk (.inl ⟨by rw[hk]at h;exact h,hc,ht,e1,e2⟩)
  ·exact .k10 hk (.inl ⟨by rw[hk]at h;exact h,hc,ht,e1,e2⟩)
  ·exact .k13 hk (.inl ⟨by rw[hk]at h;exact h,hc,ht,e1,e2⟩)
  ·exact .k15 hk (.inl ⟨by rw[hk]at h;exact h,hc,ht,e1,e2⟩)
 |k6 h p=>exact .k6 h p
 |k7 h p=>exact .k7 h p
 |k8 h p=>exact .k8 h p
 |k9 h p=>exact .k9 h p
 |k10 h p=>exact .k10 h p
 |k13 h p=>exact .k13 h p
 |k15 h p=>exact .k15 h p
end Go.Proofs.YtbacmamplkdgaaaGreatDoor
