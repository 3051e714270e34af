import Derived.Test.YtbacmamplkdgaaaGreatDoorNC8b
import Derived.Test.YtbacmamplkdgaaaGreatDoorZ9b
import Derived.Test.YtbacmamplkdgaaaGreatDoorNC3b
import Derived.Test.YtbacmamplkdgaaaGreatDoorZ0b
import Derived.Test.YtbacmamplkdgaaaGreatDoorZ1b
import Derived.Test.YtbacmamplkdgaaaGreatDoorZ3b
namespace Go.Proofs.YtbacmamplkdgaaaGreatDoor
open Go Go.RowKit Go.Deep Go.Maps Go.BigFrame Go.Shelf
theorem wpAnyG_two{P:Program}{ops:Array Oper}{Q:Exit→Act→World→Prop}{md:Region.Mode}{S:World→Prop}{m:Nat}{i j:Nat}{o o':Oper}{fuel:Nat}{listed:Array Bool}{a:Act}{w:World}(hr:Region.ready md ops listed=[i,j])(ho:ops[i]? =some o)(ho':ops[j]? =some o')
 (h:∀K':Act→World→Prop,Shut (∀a w,((listed.setIfInBounds i true).getD m false=false→S w)→wpAnyG P md ops Q S m fuel (listed.setIfInBounds i true) a w→K' a w)→if Region.wanted o (yielded ops a.tmps)=true then Oper.wp P o a w K' Q else K' (a.put o.dst undef) w)
 (h':∀K':Act→World→Prop,Shut (∀a w,((listed.setIfInBounds j true).getD m false=false→S w)→wpAnyG P md ops Q S m fuel (listed.setIfInBounds j true) a w→K' a w)→if Region.wanted o' (yielded ops a.tmps)=true then Oper.wp P o' a w K' Q else K' (a.put o'.dst undef) w):
 wpAnyG P md ops Q S m (fuel+1) listed a w:=
 ⟨fun h0=>(by rw[hr]at h0;cases h0),fun k hk=>by
   rw[hr]at hk;rcases List.mem_cons.1 hk with rfl|hk
   ·exact wpOp_step ho (fun K' hK=>h K' (fun a w hS hW=>hK a w ⟨hS,hW⟩))
   ·obtain rfl:=List.mem_singleton.1 hk;exact wpOp_step ho' (fun K' hK=>h' K' (fun a w hS hW=>hK a w ⟨hS,hW⟩))⟩
theorem calls_v{f:Nat}{a:Array Value}{W:World}{v:Value}{R:World→Prop}(h:Calls Tryz.prog f a W fun e w'=>e= .returned v∧R w'):Calls Tryz.prog f a W fun e w'=>∃x,e= .returned x∧(x=v∧R w'):=h.mono fun _ _ ⟨e1,h1⟩=>⟨_,e1,rfl,h1⟩
def seesB(X:ThrV)(b:Int)(c:CatL):Bool:=flowsB b c.n c.f c.g X.own.n X.own.h X.b1 X.c1.n X.c1.f X.c1.g
def changesB(X:ThrV)(b:Int)(c:CatL):Bool:=seesB X b c&&flowsB X.b1 X.c1.n X.c1.f X.c1.g X.own.n X.own.h b c.n c.f c.g
theorem sees_v(X:ThrV)(b:Int)(c:CatL)(W:World)(hX:X.at W)(xs:X.small)(r1:RiseL X.c1)(hc:c.at W)(hn:c.n≤1048576)(rc:RiseL c):
 Calls Tryz.prog 173 #[.agg #[.int .i64 X.id,.int .i64 X.b1,.slice X.c1.a X.c1.n X.c1.k,.int .i64 X.b2,.slice X.c2.a X.c2.n X.c2.k,.slice X.own.a X.own.n X.own.k,.int .i64 X.made],.agg #[.int .i64 b,.slice c.a c.n c.k]] W fun e w'=>e= .returned (.bool (seesB X b c))∧Below W.heap.size W w':=
 l2Sees_any X.id X.made X.b1 X.c1.a X.c1.n X.c1.k X.c1.f X.c1.g X.b2 X.c2.a X.c2.n X.c2.k X.c2.f X.c2.g X.own.a X.own.n X.own.k X.own.h b c.a c.n c.k c.f c.g W hX.1.1 hX.2.1.1 hX.2.2.1 hX.1.2 hX.2.1.2 hX.2.2.2 hc.1 hc.2 xs.1 hn r1 rc
theorem changes_v(X:ThrV)(b:Int)(c:CatL)(W:World)(hX:X.at W)(xs:X.small)(r1:RiseL X.c1)(hc:c.at W)(hn:c.n≤1048576)(rc:RiseL c):
 Calls Tryz.prog 169 #[.agg #[.int .i64 X.id,.int .i64 X.b1,.slice X.c1.a X.c1.n X.c1.k,.int .i64 X.b2,.slice X.c2.a X.c2.n X.c2.k,.slice X.own.a X.own.n X.own.k,.int .i64 X.made],.agg #[.int .i64 b,.slice c.a c.n c.k]] W fun e w'=>e= .returned (.bool (changesB X b c))∧Below W.heap.size W w':=
 l2Changes_any X.id X.made X.b1 X.c1.a X.c1.n X.c1.k X.c1.f X.c1.g X.b2 X.c2.a X.c2.n X.c2.k X.c2.f X.c2.g X.own.a X.own.n X.own.k X.own.h b c.a c.n c.k c.f c.g W hX.1.1 hX.2.1.1 hX.2.2.1 hX.1.2 hX.2.1.2 hX.2.2.2 hc.1 hc.2 xs.1 hn r1 rc
def flowB(b:Int)(c:CatL)(o:IntL)(b':Int)(c':CatL):Bool:=flowsB b c.n c.f c.g o.n o.h b' c'.n c'.f c'.g
theorem flows_v(b:Int)(c:CatL)(o:IntL)(b':Int)(c':CatL)(W:World)(hc:c.at W)(ho:o.at W)(hc':c'.at W)(n1:c.n≤1048576)(n2:c'.n≤1048576)(r1:RiseL c)(r2:RiseL c'):
 Calls Tryz.prog 41 #[.agg #[.int .i64 b,.slice c.a c.n c.k],.slice o.a o.n o.k,.agg #[.int .i64 b',.slice c'.a c'.n c'.k]] W fun e w'=>e= .returned (.bool (flowB b c o b' c'))∧Below W.heap.size W w':=
 l1Flows_any _ _ _ _ c.f c.g _ _ _ o.h _ _ _ _ c'.f c'.g W n1 n2 ho.1 hc.2 hc'.2 ho.2 r1 r2
theorem has_v(o:IntL)(x:Int)(W:World)(ho:o.at W):
 Calls Tryz.prog 78 #[.slice o.a o.n o.k,.int .i64 x] W fun e w'=>e= .returned (.bool (hasB o.n o.h x))∧w'=W:=l1Has_any _ _ _ o.h x W ho.1 ho.2
def atL(lo:List ObjV)(x:Int):Option Nat:=findI (fun i=>(atOwnOb lo i).id) lo.length x
def atT(lt:List ThrV)(x:Int):Option Nat:=findI (fun i=>(atOwnT lt i).id) lt.length x
theorem atL_some{lo:List ObjV}{x:Int}{u:Nat}(h:atL lo x=some u):∃hu:u<lo.length,(lo[u]'hu).id=x:=by
 obtain⟨h1,h2⟩:=findI_some h;refine⟨h1,?_⟩;have e1:atOwnOb lo u=lo[u]:=by simp[atOwnOb,h1]
 rw[←e1];exact h2
theorem find_v{w:World}{B ca co:Nat}{ta oa:Option Addr}{lt:List ThrV}{lo:List ObjV}(h:KSt w B (.slice ta lt.length ca) (.slice oa lo.length co) lt lo)(h1:lt.length≤1048576)(h2:lo.length≤1048576)(h3:∀x∈lo,x.data.size≤maxLen)(x:Int):
 Calls Tryz.prog 48 #[.agg #[.slice ta lt.length ca,.slice oa lo.length co],.int .i64 x] w fun e w'=>e= .returned (.int .i64 (idxI (atL lo x)))∧Below w.heap.size w w':=l3Find_any (kOf ta ca oa co lt lo) x w (h.at h1 h2 h3)
theorem oL_kOf(ta:Option Addr)(ca:Nat)(oa:Option Addr)(co:Nat)(lt:List ThrV)(lo:List ObjV):(kOf ta ca oa co lt lo).oL lo.length=lo:=by
 refine List.ext_getElem (by simp[KerV.oL]) fun i h1 h2=>?_;simp[KerV.oL,kOf,atOwnOb,h2]
theorem add_v{w:World}{B ca co:Nat}{ta oa:Option Addr}{lt:List ThrV}{lo:List ObjV}(h:KSt w B (.slice ta lt.length ca) (.slice oa lo.length co) lt lo)(h1:lt.length≤1048576)(h2:lo.length≤1048000)(h3:∀x∈lo,x.data.size≤maxLen)(o:ObjV):
 Calls Tryz.prog 170 #[.agg #[.slice ta lt.length ca,.slice oa lo.length co],.agg #[.int .i64 o.id,.int .i64 o.kind,.int .i64 o.up,.int .i64 o.b1,.slice o.c1.a o.c1.n o.c1.k,.string o.data,.slice o.items.a o.items.n o.items.k,.slice o.own.a o.own.n o.own.k,.int .i64 o.b2,.slice o.c2.a o.c2.n o.c2.k]] w fun e w'=>∃(ob:Option Addr) (cb:Nat),e= .returned (.agg #[.slice ta lt.length ca,.slice ob (insL o lo).length cb])∧OwnOb w' w.heap.size (.slice ob (insL o lo).length cb) (insL o lo)∧Below w.heap.size w w':=by
 have:=l4Add_any (kOf ta ca oa co lt lo) o w (h.at h1 (by omega) h3) h2;have e:(kOf ta ca oa co lt lo).oL (kOf ta ca oa co lt lo).on=lo:=oL_kOf ta ca oa co lt lo;rw[e]at this;exact this
def madeB(X:ThrV)(s:StepV)(lo:List ObjV):Bool:=
 match atL lo s.id with
 |none=>false
 |some u=>decide ((atOwnOb lo u).kind=3)&&changesB X (atOwnOb lo u).b1 (atOwnOb lo u).c1&&flowB X.b1 X.c1 X.own s.b1 s.c1&&flowB s.b1 s.c1 X.own X.b2 X.c2&&(!decide (0<s.cat)||hasB X.own.n X.own.h s.cat)
theorem l4None_any(base:Int)(a:Option Addr)(n cap:Nat)(w:World)(hn:n≤maxLen):
 Calls Tryz.prog 166 #[.agg #[.int .i64 base,.slice a n cap]] w fun e w'=>e= .returned (.bool (zeroB base n))∧Below w.heap.size w w':=by
 unfold maxLen at hn;have hb0:=(Below.refl _ w).alloc (Nat.le_refl _) (.cells #[.int .i64 base,.slice a n cap] 30);cases t:(base==0)with
 |true=>
  go_enter Tryz.func166,Tryz.ntmps166
  go_wp2;go_ret;refine⟨ret_bool ?_,hb0⟩;unfold zeroB;rw[t,Bool.true_and];by_cases e:n=0
  ·subst e;rfl
  ·have e1:(n==0)=false:=(by simpa using e);rw[e1];simp;omega
 |false=>
  go_enter Tryz.func166,Tryz.ntmps166
  go_wp2;go_ret;exact⟨ret_bool (by simp[zeroB,t]),hb0⟩
def noText(d:ByteArray):Bool:=d.toList.isEmpty
def stepC(ok ui ut uc ud ul ue:Bool)(th kind id to' cat:Int)(d:ByteArray)(lo zl co zc:Bool):Bool:=
 ok&&inB th 1 9&&lo&&(ul||zl)&&co&&(ue||zc)&&plainB d 40&&(ud||noText d)&&numB id ui&&numB to' ut&&catB kind cat uc
def stepOk(th kind id to' cat:Int)(d:ByteArray)(bl:Int)(nl:Nat)(fl gl:Nat→Int)(bc:Int)(nc:Nat)(fc gc:Nat→Int):Bool:=
 stepC (uOk kind) (uId kind) (uTo kind) (uCat kind) (uData kind) (uLabel kind) (uClear kind) th kind id to' cat d (labOk bl nl fl gl) (zeroB bl nl) (labOk bc nc fc gc) (zeroB bc nc)
def okL(lt:List ThrV)(lo:List ObjV):Bool:=kerOk (kOf none 0 none 0 lt lo)
theorem atOwnT_get{lt:List ThrV}{i:Nat}(h:i<lt.length):atOwnT lt i=lt[i]:=by simp[atOwnT,h]
theorem atOwnOb_get{lo:List ObjV}{i:Nat}(h:i<lo.length):atOwnOb lo i=lo[i]:=by simp[atOwnOb,h]
theorem lab_rise{b:Int}{c:CatL}(h:labOk b c.n c.f c.g=true):RiseL c∧c.n≤12:=by
 unfold labOk at h;simp only[Bool.and_eq_true,decide_eq_true_eq,List.all_eq_true,List.mem_range]at h;obtain⟨⟨_,hn⟩,ha⟩:=h;refine⟨?_,hn⟩;intro j hj;induction j with
 |zero=>intro i hi;omega
 |succ j ih=>
  intro i hi;have h1:=ha (j+1) hj;unfold catOk at h1;simp only[Bool.and_eq_true,Bool.or_eq_true,decide_eq_true_eq,beq_iff_eq]at h1;have h2:c.f j<c.f (j+1):=by
   rcases h1.2 with e|e
   ·omega
   ·simpa using e
  by_cases e:i=j
  ·subst e;exact h2
  ·have:=ih (by omega) i (by omega);omega
structure ThrF(x:ThrV):Prop where
 id:1≤x.id∧x.id≤9
 l1:labOk x.b1 x.c1.n x.c1.f x.c1.g=true
 l2:labOk x.b2 x.c2.n x.c2.f x.c2.g=true
 own:ownOk x.own.n x.own.h=true
 made:0≤x.made∧x.made≤30
theorem thrF_iff{x:ThrV}:thrOkV x=true↔ThrF x:=by
 unfold thrOkV thrOk;simp only[Bool.and_eq_true,inB_iff];exact⟨fun⟨⟨⟨⟨a,b⟩,c⟩,d⟩,e⟩=>⟨a,b,c,d,e⟩,fun h=>⟨⟨⟨⟨h.id,h.l1⟩,h.l2⟩,h.own⟩,h.made⟩⟩
theorem own_n{n:Nat}{h:Nat→Int}(e:ownOk n h=true):n≤10:=by
 unfold ownOk at e;simp only[Bool.and_eq_true,decide_eq_true_eq]at e;exact e.1
theorem ThrF.small{x:ThrV}(h:ThrF x):x.small:=⟨by have:=(lab_rise h.l1).2;omega,by have:=(lab_rise h.l2).2;omega,by have:=own_n h.own;omega⟩
structure ObjF(x:ObjV):Prop where
 l1:labOk x.b1 x.c1.n x.c1.f x.c1.g=true
 l2:labOk x.b2 x.c2.n x.c2.f x.c2.g=true
 own:ownOk x.own.n x.own.h=true
 data:plainB x.data 40=true
 items:itemsB x.items.n x.items.f=true
 kind:kindB x=true
theorem objF_iff{x:ObjV}:objOk x=true↔ObjF x:=by
 unfold objOk;simp only[Bool.and_eq_true];exact⟨fun⟨⟨⟨⟨⟨a,b⟩,c⟩,d⟩,e⟩,f⟩=>⟨a,b,c,d,e,f⟩,fun h=>⟨⟨⟨⟨⟨h.l1,h.l2⟩,h.own⟩,h.data⟩,h.items⟩,h.kind⟩⟩
theorem plain_size{d:ByteArray}(h:plainB d 40=true):d.size≤40:=by
 unfold plainB at h;simp only[Bool.and_eq_true,decide_eq_true_eq]at h;omega
section
variable {lt:List ThrV}{lo:List ObjV} (ok:okL lt lo=true)
include ok
theorem okL_tn:1≤lt.length∧lt.length≤9:=by
 have h:=thrsOk_out (kerOk_parts ok).1;exact⟨h.1,h.2.1⟩
theorem okL_on:1≤lo.length∧lo.length≤271:=by
 have h:=objsOk_out (kerOk_parts ok).2.1;exact⟨h.1,h.2.1⟩
theorem okL_thr:∀x∈lt,ThrF x:=fun x hx=>by
 obtain⟨i,hi,e⟩:=List.mem_iff_getElem.1 hx;have h:=(thrsOk_out (kerOk_parts ok).1).2.2 i hi;unfold thrAt at h;simp only[Bool.and_eq_true]at h;have e2:(kOf none 0 none 0 lt lo).T i=x:=(atOwnT_get hi).trans e;rw[e2]at h;exact thrF_iff.1 h.1
theorem okL_obj:∀x∈lo,ObjF x:=fun x hx=>by
 obtain⟨i,hi,e⟩:=List.mem_iff_getElem.1 hx;have h:=(objsOk_out (kerOk_parts ok).2.1).2.2.1 i hi;unfold objAt at h;simp only[Bool.and_eq_true]at h;have e2:(kOf none 0 none 0 lt lo).O i=x:=(atOwnOb_get hi).trans e;rw[e2]at h;exact objF_iff.1 h.1
theorem okL_id:∀x∈lo,0≤x.id∧x.id≤1000000:=fun x hx=>by
 obtain⟨i,hi,e⟩:=List.mem_iff_getElem.1 hx;have k:=kerOk_iff.1 ok;have e2:(kOf none 0 none 0 lt lo).O i=x:=(atOwnOb_get hi).trans e;by_cases h0:i=0
 ·subst h0;have r:=k.root;rw[e2]at r;unfold rootB at r;simp only[Bool.and_eq_true,beq_iff_eq]at r;omega
 ·have h:=k.num i (by omega) hi;rw[e2]at h;obtain⟨t,h1,h2,h3,h4⟩:=numAt_parts k.thr h;have e3:(kOf none 0 none 0 lt lo).T t=lt[t]:=atOwnT_get h1;rw[e3]at h2 h4;have f:=okL_thr ok _ (List.getElem_mem h1);have:=f.id;have:=f.made;omega
theorem okL_data:∀x∈lo,x.data.size≤maxLen:=fun x hx=>by
 have:=plain_size (okL_obj ok x hx).data;unfold maxLen;omega
theorem okL_items:∀x∈lo,x.items.n≤8∧∀i,i<x.items.n→plainB (x.items.f i) 40=true:=fun x hx=>by
 have h:=(okL_obj ok x hx).items;unfold itemsB at h;simp only[Bool.and_eq_true,decide_eq_true_eq,List.all_eq_true,List.mem_range]at h;exact⟨by omega,h.2⟩
end
def StepV.ok(s:StepV):Bool:=stepOk s.th s.kind s.id s.to s.cat s.data s.b1 s.c1.n s.c1.f s.c1.g s.b2 s.c2.n s.c2.f s.c2.g
structure StepF(s:StepV):Prop where
 kind:1≤s.kind∧s.kind≤15
 l1:labOk s.b1 s.c1.n s.c1.f s.c1.g=true
 l2:labOk s.b2 s.c2.n s.c2.f s.c2.g=true
 data:plainB s.data 40=true
 cat:catB s.kind s.cat (uCat s.kind)=true
 id:numB s.id (uId s.kind)=true
theorem stepF{s:StepV}(h:s.ok=true):StepF s:=by
 unfold StepV.ok stepOk stepC at h;simp only[Bool.and_eq_true]at h;obtain⟨⟨⟨⟨⟨⟨⟨⟨⟨⟨a,b⟩,c⟩,d⟩,e⟩,f⟩,g⟩,i⟩,j⟩,k⟩,l⟩:=h;refine⟨?_,c,e,g,l,j⟩;unfold uOk at a;simp only[Bool.or_eq_true,beq_iff_eq]at a;omega
structure StF(lt:List ThrV)(lo:List ObjV):Prop where
 tn:1≤lt.length∧lt.length≤9
 on:1≤lo.length∧lo.length≤271
 data:∀x∈lo,x.data.size≤maxLen
 id:∀x∈lo,0≤x.id∧x.id≤1000000
 thr:∀x∈lt,ownOk x.own.n x.own.h=true∧labOk x.b1 x.c1.n x.c1.f x.c1.g=true
theorem StF.of{lt:List ThrV}{lo:List ObjV}(h:okL lt lo=true):StF lt lo:=⟨okL_tn h,okL_on h,okL_data h,okL_id h,fun x hx=>⟨(okL_thr h x hx).own,(okL_thr h x hx).l1⟩⟩
end Go.Proofs.YtbacmamplkdgaaaGreatDoor
