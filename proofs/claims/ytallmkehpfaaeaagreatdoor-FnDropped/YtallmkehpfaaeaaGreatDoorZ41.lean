import Derived.Test.YtallmkehpfaaeaaGreatDoorZ40
import Derived.Test.YtallmkehpfaaeaaGreatDoorZ28
import Derived.Test.YtallmkehpfaaeaaGreatDoorZ3
import Derived.Test.YtallmkehpfaaeaaGreatDoorZ37
import Derived.Test.YtallmkehpfaaeaaGreatDoorZ31
import Derived.Test.YtallmkehpfaaeaaGreatDoorZ0
import Derived.Test.YtallmkehpfaaeaaGreatDoorZ16
set_option maxRecDepth 100000
set_option maxHeartbeats 16000000
namespace Go.Proofs.YtallmkehpfaaeaaGreatDoor
open Go Go.RowKit Go.Deep Go.Maps
def StepV.same(s t:StepV):Prop:=t.th=s.th∧t.kind=s.kind∧t.id=s.id∧t.to=s.to∧t.cat=s.cat∧t.data=s.data∧t.b1=s.b1∧s.c1.same t.c1∧t.b2=s.b2∧s.c2.same t.c2
theorem done_step{s t:StepV}{lt lt':List ThrV}{lo lo':List ObjV}{c:Int}{tx:ByteArray}(e:s.same t)(h:DoneP lt lo t c tx lt' lo'):DoneP lt lo s c tx lt' lo':=by
 obtain⟨s1,s2,s3,s4,s5,s6,s7,⟨sa,sn,sk,sf,sg⟩,s9,⟨ra,rn,rk,rf,rg⟩⟩:=s;obtain⟨t1,t2,t3,t4,t5,t6,t7,⟨ta,tn,tk,tf,tg⟩,t9,⟨ua,un,uk,uf,ug⟩⟩:=t;obtain⟨e1,e2,e3,e4,e5,e6,e7,⟨f1,f2,f3⟩,e9,⟨g1,g2,g3⟩⟩:=e;dsimp only at e1 e2 e3 e4 e5 e6 e7 f1 f2 f3 e9 g1 g2 g3;subst e1 e2 e3 e4 e5 e6 e7 f1 f2 f3 e9 g1 g2 g3;cases h with
 |form a b c d e=>exact .form a b c d e
 |thread a b c d e f=>exact .thread a b c d e f
 |act a t ht hn p=>
  refine .act a t ht hn ?_;cases p with
  |k1 h x e1 e2 p=>exact .k1 h x e1 e2 p
  |k12 h x e1 e2 e3 p=>exact .k12 h x e1 e2 e3 p
  |k14 h x e1 e2 e3 p=>exact .k14 h x e1 e2 e3 p
  |make h p=>exact .make h p
  |drop h e1 e3 p=>exact .drop h e1 e3 p
  |k6 h p=>exact .k6 h p
  |k7 h p=>exact .k7 h p
  |k8 h p=>exact .k8 h p
  |k9 h p=>exact .k9 h p
  |k10 h p=>exact .k10 h p
  |k13 h p=>exact .k13 h p
  |k15 h p=>exact .k15 h p
def Right(k:KerV)(s:StepV)(c:Int)(tx:ByteArray)(lt:List ThrV)(lo:List ObjV):Prop:=
 (kerOk k=false∧c=1∧tx=⟨#[]⟩∧lt=[]∧lo=[])∨
 (kerOk k=true∧∃(lt0:List ThrV) (lo0:List ObjV) (lt2:List ThrV) (lo2:List ObjV),k.same (kOf none 0 none 0 lt0 lo0)∧SameT lt lt2∧SameO lo lo2∧DoneP lt0 lo0 s c tx lt2 lo2)
theorem Right.of{k l:KerV}{s t:StepV}{c:Int}{tx:ByteArray}{lt:List ThrV}{lo:List ObjV}(hk:k.same l)(hs:s.same t)(h:Right l t c tx lt lo):Right k s c tx lt lo:=by
 have e:=kerOk_same hk;rcases h with⟨a,b⟩|⟨a,lt0,lo0,lt2,lo2,b,x,y,d⟩
 ·exact .inl ⟨e▸a,b⟩
 ·refine .inr ⟨e▸a,lt0,lo0,lt2,lo2,?_,x,y,done_step hs d⟩;obtain⟨h1,h2,h3,h4⟩:=hk;refine⟨b.1.trans h1,fun j hj=>?_,b.2.2.1.trans h3,fun j hj=>?_⟩
  ·obtain⟨a1,a2,a3,a4,a5,a6,a7⟩:=h2 j hj;obtain⟨b1,b2,b3,b4,b5,b6,b7⟩:=b.2.1 j (by rw[h1];exact hj);exact⟨b1.trans a1,b2.trans a2,⟨b3.1.trans a3.1,b3.2.1.trans a3.2.1,b3.2.2.trans a3.2.2⟩,b4.trans a4,⟨b5.1.trans a5.1,b5.2.1.trans a5.2.1,b5.2.2.trans a5.2.2⟩,⟨b6.1.trans a6.1,b6.2.trans a6.2⟩,b7.trans a7⟩
  ·obtain⟨a1,a2,a3,a4,a5,a6,a7,a8,a9,a10⟩:=h4 j hj;obtain⟨b1,b2,b3,b4,b5,b6,b7,b8,b9,b10⟩:=b.2.2.2 j (by rw[h3];exact hj);exact⟨b1.trans a1,b2.trans a2,b3.trans a3,b4.trans a4,⟨b5.1.trans a5.1,b5.2.1.trans a5.2.1,b5.2.2.trans a5.2.2⟩,b6.trans a6,⟨b7.1.trans a7.1,b7.2.trans a7.2⟩,⟨b8.1.trans a8.1,b8.2.trans a8.2⟩,b9.trans a9,⟨b10.1.trans a10.1,b10.2.1.trans a10.2.1,b10.2.2.trans a10.2.2⟩⟩
theorem EqT.flip{l m:List ThrV}(h:EqT l m):EqT m l:=⟨h.1.symm,fun j hj=>by
 obtain⟨a1,a2,a3,a4,a5,a6,a7⟩:=h.2 j (by rw[←h.1];exact hj);exact⟨a1.symm,a2.symm,⟨a3.1.symm,fun i hi=>⟨(a3.2 i (by rw[←a3.1];exact hi)).1.symm,(a3.2 i (by rw[←a3.1];exact hi)).2.symm⟩⟩,a4.symm,⟨a5.1.symm,fun i hi=>⟨(a5.2 i (by rw[←a5.1];exact hi)).1.symm,(a5.2 i (by rw[←a5.1];exact hi)).2.symm⟩⟩,⟨a6.1.symm,fun i hi=>(a6.2 i (by rw[←a6.1];exact hi)).symm⟩,a7.symm⟩⟩
theorem EqO.flip{l m:List ObjV}(h:EqO l m):EqO m l:=⟨h.1.symm,fun j hj=>by
 obtain⟨a1,a2,a3,a4,a5,a6,a7,a8,a9,a10⟩:=h.2 j (by rw[←h.1];exact hj);exact⟨a1.symm,a2.symm,a3.symm,a4.symm,⟨a5.1.symm,fun i hi=>⟨(a5.2 i (by rw[←a5.1];exact hi)).1.symm,(a5.2 i (by rw[←a5.1];exact hi)).2.symm⟩⟩,a6.symm,⟨a7.1.symm,fun i hi=>(a7.2 i (by rw[←a7.1];exact hi)).symm⟩,⟨a8.1.symm,fun i hi=>(a8.2 i (by rw[←a8.1];exact hi)).symm⟩,a9.symm,⟨a10.1.symm,fun i hi=>⟨(a10.2 i (by rw[←a10.1];exact hi)).1.symm,(a10.2 i (by rw[←a10.1];exact hi)).2.symm⟩⟩⟩⟩
theorem right_tells{k:KerV}{s:StepV}{c c2:Int}{tx tx2:ByteArray}{lt lt2:List ThrV}{lo lo2:List ObjV}(h:Right k s c tx lt lo)(h2:Right k s c2 tx2 lt2 lo2):Tells c c2 tx tx2 lt lt2 lo lo2:=by
 rcases h with⟨a,rfl,rfl,rfl,rfl⟩|⟨a,x1,x2,x3,x4,x5,x6,x7,x8⟩<;>rcases h2 with⟨b,rfl,rfl,rfl,rfl⟩|⟨b,y1,y2,y3,y4,y5,y6,y7,y8⟩
 ·exact tells_refl
 ·rw[a]at b;cases b
 ·rw[a]at b;cases b
 ·obtain⟨z1,z2,z3,z4⟩:=done_tells x5 y5 x8 y8;exact⟨z1,z2,(EqT.after y6 (EqT.after x6 z3).flip).flip,(EqO.after y7 (EqO.after x7 z4).flip).flip⟩
theorem Right.okL{k:KerV}{s:StepV}{c:Int}{tx:ByteArray}{lt:List ThrV}{lo:List ObjV}(h:Right k s c tx lt lo):(lt=[]∧lo=[])∨okL lt lo=true:=by
 rcases h with⟨_,_,_,e1,e2⟩|⟨a,lt0,lo0,lt2,lo2,b,x,y,d⟩
 ·exact .inl ⟨e1,e2⟩
 ·have o0:Go.Proofs.YtallmkehpfaaeaaGreatDoor.okL lt0 lo0=true:=(kerOk_same b).trans a;have o2:=okL_done o0 d;exact .inr ((kerOk_same (k:=kOf none 0 none 0 lt lo) (l:=kOf none 0 none 0 lt2 lo2) ⟨x.1,x.2,y.1,y.2⟩).symm.trans o2)
def AnsF(k:KerV)(s:StepV)(w:World)(e:Ending)(w':World):Prop:=
 ∃(lt:List ThrV) (lo:List ObjV) (ta oa:Option Addr) (ca co:Nat) (c:Int) (tx:ByteArray),e= .returned (.tuple #[.agg #[.slice ta lt.length ca,.slice oa lo.length co],.int .i64 c,.string tx])∧KStF w' w.heap.size (.slice ta lt.length ca) (.slice oa lo.length co) lt lo∧Apart lt lo∧Right k s c tx lt lo∧Below w.heap.size w w'
theorem kstF_nil(w:World)(B:Nat):KStF w B (.slice none 0 0) (.slice none 0 0) [] []:=
 ⟨⟨rfl,.inl ⟨rfl,rfl⟩⟩,⟨rfl,.inl ⟨rfl,rfl⟩⟩,fun x hx=>(by cases hx),fun x hx=>(by cases hx)⟩
theorem DoneA.ans{k:KerV}{s:StepV}{w w':World}{e:Ending}(h:DoneA k s w e w'):AnsF k s w e w':=by
 obtain⟨b,kv,c,tx,rfl,⟨n,rfl,rfl,rfl⟩|⟨ok,lt,lo,lt',lt2,lo',lo2,ta,oa,ca,co,sm,rfl,ks,ap,x,y,d⟩⟩:=h
 ·exact⟨[],[],none,none,0,0,1,⟨#[]⟩,rfl,kstF_nil _ _,.nil,.inl ⟨n,rfl,rfl,rfl,rfl⟩,b⟩
 ·exact⟨lt',lo',ta,oa,ca,co,c,tx,rfl,ks,ap,.inr ⟨ok,lt,lo,lt2,lo2,sm,x,y,d⟩,b⟩
def AnsM(k:KerV)(s:StepV)(w:World)(e:Ending)(w':World):Prop:=
 ∃(lt:List ThrV) (lo:List ObjV) (ta oa:Option Addr) (ca co:Nat) (c:Int) (tx:ByteArray),e= .returned (.tuple #[.agg #[.slice ta lt.length ca,.slice oa lo.length co],.int .i64 c,.string tx])∧KStF w' w.heap.size (.slice ta lt.length ca) (.slice oa lo.length co) lt lo∧Right k s c tx lt lo∧Below w.heap.size w w'
theorem specDone_m(k:KerV)(w:World)(hk:k.at w)(hw:∀i,i<k.on→(Lit.int .i64 (k.O i).id).wf=true)(s:StepV)(hs:s.at w):
 Calls Tryz.prog 13 #[.agg #[.slice k.ta k.tn k.tk,.slice k.oa k.on k.ok],.agg #[.int .i64 s.th,.int .i64 s.kind,.int .i64 s.id,.int .i64 s.to,.int .i64 s.cat,.string s.data,.int .i64 s.b1,.slice s.c1.a s.c1.n s.c1.k,.int .i64 s.b2,.slice s.c2.a s.c2.n s.c2.k]] w fun e w'=>AnsM k s w e w':=by
 cases ok:kerOk k with
 |false=>
  refine(specDone_no k w hk ok hw s).mono ?_;rintro e w' ⟨rfl,b⟩;exact⟨[],[],none,none,0,0,1,⟨#[]⟩,rfl,kstF_nil _ _,.inl ⟨ok,rfl,rfl,rfl,rfl⟩,b⟩
 |true=>
  refine(specDone_ok k w hk ok s hs).mono ?_;rintro e w' ⟨lt,lo,lt',lo',ta,ca,oa,co,c,tx,rfl,ks,b,sm,d⟩;exact⟨lt',lo',ta,oa,ca,co,c,tx,rfl,ks.f,.inr ⟨ok,lt,lo,lt',lo',sm,SameT.refl _,⟨rfl,fun _ _=>⟨rfl,rfl,rfl,rfl,⟨rfl,rfl,rfl⟩,rfl,⟨rfl,rfl⟩,⟨rfl,rfl⟩,rfl,⟨rfl,rfl,rfl⟩⟩⟩,d⟩,b⟩
theorem kOf_self(ta:Option Addr)(ca:Nat)(oa:Option Addr)(co:Nat)(lt:List ThrV)(lo:List ObjV):(kOf ta ca oa co lt lo).same (kOf none 0 none 0 lt lo):=
 ⟨rfl,fun _ _=>thr_refl _,rfl,fun _ _=>ObjV.same.refl _⟩
theorem Right.right{k:KerV}{s:StepV}{c:Int}{tx:ByteArray}{lt:List ThrV}{lo:List ObjV}(h:Right k s c tx lt lo)(hc:c≠1):kerOk k=true∧Go.Proofs.YtallmkehpfaaeaaGreatDoor.okL lt lo=true:=by
 rcases h with⟨_,e,_⟩|⟨a,lt0,lo0,lt2,lo2,b,x,y,d⟩
 ·exact(hc e).elim
 ·have o0:Go.Proofs.YtallmkehpfaaeaaGreatDoor.okL lt0 lo0=true:=(kerOk_same b).trans a;have o2:=okL_done o0 d;exact⟨a,(kerOk_same (k:=kOf none 0 none 0 lt lo) (l:=kOf none 0 none 0 lt2 lo2) ⟨x.1,x.2,y.1,y.2⟩).symm.trans o2⟩
theorem drop_right{ta oa:Option Addr}{ca co:Nat}{lt lt':List ThrV}{lo lo':List ObjV}{s:StepV}{tx:ByteArray}(hk:s.kind=11)(h:Right (kOf ta ca oa co lt lo) s 0 tx lt' lo'):
 ∃u,atL lo s.id=some u∧0<u∧idsL lo'=(idsL lo).filter (fun x=> !hasB (goneL lo u).length (nthI (goneL lo u)) x):=by
 rcases h with⟨_,e,_⟩|⟨ok,lt0,lo0,lt2,lo2,sm,st,so,d⟩
 ·cases e
 ·obtain⟨_,hn⟩:=ker_nm (kOf_self ta ca oa co lt lo) sm;have no:∀{n:Int},n≠11→s.kind=n→False:=fun h1 h2=>h1 (h2.symm.trans hk);cases d with
  |form _ hc=>cases hc
  |thread _ _ hc=>cases hc
  |act _ t ht _ p=>
   cases p with
   |k1 h=>exact(no (by decide) h).elim
   |k12 h=>exact(no (by decide) h).elim
   |k14 h=>exact(no (by decide) h).elim
   |make h=>exact(by rcases h with h|h|h|h<;>exact no (by decide) h:False).elim
   |k6 h=>exact(no (by decide) h).elim
   |k7 h=>exact(no (by decide) h).elim
   |k8 h=>exact(no (by decide) h).elim
   |k9 h=>exact(no (by decide) h).elim
   |k10 h=>exact(no (by decide) h).elim
   |k13 h=>exact(no (by decide) h).elim
   |k15 h=>exact(no (by decide) h).elim
   |drop _ e1 e3 p=>
    rcases p with⟨e,_⟩|⟨_,_,u,hu,u0,e⟩
    ·cases e
    ·exact⟨u,(nm_atL hn _).trans hu,u0,by rw[same_ids so,e,stay_ids,nm_ids hn,nm_gone hn]⟩
theorem drop_plain{ta oa ta' oa':Option Addr}{ca co ca' co':Nat}{lt lt':List ThrV}{lo lo':List ObjV}{s:StepV}{tx:ByteArray}(hk:s.kind=11)(h:Right (kOf ta ca oa co lt lo) s 0 tx lt' lo'):
 (∀j,j<lo.length→(objL (kOf ta' ca' oa' co' lt' lo') (atOwnOb lo j).id).isSome= !hasB (underL (kOf ta ca oa co lt lo) s.id).length (nthI (underL (kOf ta ca oa co lt lo) s.id)) (atOwnOb lo j).id)∧lo'.length+(underL (kOf ta ca oa co lt lo) s.id).length=lo.length∧s.id≠1:=by
 obtain⟨ok,ok'⟩:=h.right (by decide);obtain⟨u,hu,u0,hi⟩:=drop_right hk h;have ug:underL (kOf ta ca oa co lt lo) s.id=goneL lo u:=by
  unfold underL;rw[if_pos ok];have e:findI (fun i=>((kOf ta ca oa co lt lo).O i).id) (kOf ta ca oa co lt lo).on s.id=some u:=hu;rw[e];rfl
 rw[ug];have okl:okL lt lo=true:=ok;refine⟨fun j hj=>?_,?_,fun e=>?_⟩
 ·refine Bool.eq_iff_iff.2 ?_;rw[obj_some ok',hi,List.mem_filter];exact⟨fun h=>h.2,fun h=>⟨ids_mem.2 ⟨j,hj,rfl⟩,h⟩⟩
 ·have e1:=filter_two (fun x=>hasB (goneL lo u).length (nthI (goneL lo u)) x) (idsL lo);rw[gone_ids okl hu,←hi]at e1;have l1:(idsL lo).length=lo.length:=by simp[idsL]
  have l2:(idsL lo').length=lo'.length:=by simp[idsL]
  omega
 ·obtain⟨h1,h2⟩:=findI_some hu;have r:=(okL_root okl).2.1;have rise:Rises (fun i=>(atOwnOb lo i).id) lo.length:=(kerOk_iff.1 ok).rise;have:=rise 0 u u0 h1;have h2':(atOwnOb lo u).id=s.id:=h2;simp only at this;omega
theorem wf_in{x:Int}(h:InI x):(Lit.int .i64 x).wf=true:=by
 have e1:IntKind.i64.min= -9223372036854775808:=by decide
 have e2:IntKind.i64.max=9223372036854775807:=by decide
 simp[Lit.wf,e1,e2];unfold InI at h;omega
theorem KStF.at{w:World}{B ca co:Nat}{ta oa:Option Addr}{lt:List ThrV}{lo:List ObjV}(h:KStF w B (.slice ta lt.length ca) (.slice oa lo.length co) lt lo)(f:KerF lt lo):(kOf ta ca oa co lt lo).at w:=
 ⟨Nat.le_trans f.tn.2 (by unfold maxLen;omega),Nat.le_trans f.on.2 (by unfold maxLen;omega),h.t.lies (fun x hx=>(h.tn x hx).at),h.o.lies (fun x hx=>(h.on x hx).at (f.data x hx))⟩
theorem KerF.wf{lt:List ThrV}{lo:List ObjV}(f:KerF lt lo):∀i,i<lo.length→(Lit.int .i64 (atOwnOb lo i).id).wf=true∧(Lit.int .i64 (atOwnOb lo i).up).wf=true:=fun i hi=>by
 have h:=f.o _ (List.getElem_mem hi);rw[atOwnOb_get hi];exact⟨wf_small h.2.1,wf_in h.2.2⟩
theorem KerF.small{lt:List ThrV}{lo:List ObjV}(f:KerF lt lo)(ta oa:Option Addr)(ca co:Nat):(kOf ta ca oa co lt lo).small:=⟨⟨by show lt.length≤1048576;have:=f.tn.2;omega,fun i hi=>by
 have hi':i<lt.length:=hi;show(atOwnT lt i).small;rw[atOwnT_get hi'];exact f.t _ (List.getElem_mem hi')⟩,by show lo.length≤1048576;have:=f.on.2;omega,fun i hi=>by
 have hi':i<lo.length:=hi;show(atOwnOb lo i).small;rw[atOwnOb_get hi'];exact(f.o _ (List.getElem_mem hi')).1⟩
structure Kn(B:Nat)(W:World)(lt:List ThrV)(lo:List ObjV)(ta oa:Option Addr)(ca co:Nat):Prop where
 st:KStF W B (.slice ta lt.length ca) (.slice oa lo.length co) lt lo
 f:KerF lt lo
theorem Kn.below{B:Nat}{W W':World}{lt:List ThrV}{lo:List ObjV}{ta oa:Option Addr}{ca co:Nat}(h:Kn B W lt lo ta oa ca co)(hb:Below W.heap.size W W'):Kn B W' lt lo ta oa ca co:=⟨h.st.below hb,h.f⟩
theorem Kn.cap{B:Nat}{W:World}{lt:List ThrV}{lo:List ObjV}{ta oa:Option Addr}{ca co:Nat}(h:Kn B W lt lo ta oa ca co):lo.length≤co:=(own_cap h.st.o).1
def Vars(W:World)(E:Nat→Addr):Prop:=Errs W E∧ErrB W E∧Tab W
theorem Vars.below{W W':World}{E:Nat→Addr}(h:Vars W E)(hb:Below W.heap.size W W'):Vars W' E:=⟨h.1.below (by have:=h.2.1.2.2.2;omega) hb,h.2.1.below hb,h.2.2.below hb⟩
section
variable {B:Nat}{W:World}{lt:List ThrV}{lo:List ObjV}{ta oa:Option Addr}{ca co:Nat} (h:Kn B W lt lo ta oa ca co)
include h
theorem Kn.done{E:Nat→Addr}{s:StepV}(hr:Runs E s)(hs:s.at W)(v:Vars W E):Calls Tryz.prog 12 #[.agg #[.slice ta lt.length ca,.slice oa lo.length co],.agg #[.int .i64 s.th,.int .i64 s.kind,.int .i64 s.id,.int .i64 s.to,.int .i64 s.cat,.string s.data,.int .i64 s.b1,.slice s.c1.a s.c1.n s.c1.k,.int .i64 s.b2,.slice s.c2.a s.c2.n s.c2.k]] W fun e w'=>AnsF (kOf ta ca oa co lt lo) s W e w':=
 (implDone_any E (kOf ta ca oa co lt lo) s hr W (h.st.at h.f) hs h.cap h.f.wf v.1 v.2.1 v.2.2).mono fun _ _ d=>d.ans
theorem Kn.spec{s:StepV}(hs:s.at W):Calls Tryz.prog 13 #[.agg #[.slice ta lt.length ca,.slice oa lo.length co],.agg #[.int .i64 s.th,.int .i64 s.kind,.int .i64 s.id,.int .i64 s.to,.int .i64 s.cat,.string s.data,.int .i64 s.b1,.slice s.c1.a s.c1.n s.c1.k,.int .i64 s.b2,.slice s.c2.a s.c2.n s.c2.k]] W fun e w'=>AnsM (kOf ta ca oa co lt lo) s W e w':=
 specDone_m (kOf ta ca oa co lt lo) W (h.st.at h.f) (fun i hi=>(h.f.wf i hi).1) s hs
theorem Kn.under{x:Int}(hx:(Lit.int .i64 x).wf=true):Calls Tryz.prog 27 #[.agg #[.slice ta lt.length ca,.slice oa lo.length co],.int .i64 x] W fun e w'=>∃(a:Option Addr) (c:Nat),e= .returned (.slice a (underL (kOf ta ca oa co lt lo) x).length c)∧OwnI w' W.heap.size (.slice a (underL (kOf ta ca oa co lt lo) x).length c) (underL (kOf ta ca oa co lt lo) x)∧Below W.heap.size W w':=by
 refine(implUnder_any (kOf ta ca oa co lt lo) x W (h.st.at h.f) h.cap h.f.wf hx).mono ?_;rintro e w' ⟨v,e1,o,hb⟩;obtain⟨a,c,rfl⟩:=OwnI.form o;exact⟨a,c,e1,o,hb⟩
theorem Kn.obj{x:Int}(hx:(Lit.int .i64 x).wf=true):Calls Tryz.prog 18 #[.agg #[.slice ta lt.length ca,.slice oa lo.length co],.int .i64 x] W fun e w'=>ObjAns (kOf ta ca oa co lt lo) x W w' e:=
 implObjectOf_any (kOf ta ca oa co lt lo) x W (h.st.at h.f) (h.f.small ta oa ca co) h.cap h.f.wf hx
end
open Go.BigFrame Go.Shelf
theorem KSt.subO{w w':World}{B q co co':Nat}{vt:Value}{lt:List ThrV}{l l':List ObjV}(h:KSt w B vt (.slice (some ⟨q,0,none⟩) l.length co) lt l)(ho:OwnOb w' B (.slice (some ⟨q,0,none⟩) l'.length co') l')(hg:w.grownBy w' (some q))(hp:∀x∈l',x∈l):KSt w' B vt (.slice (some ⟨q,0,none⟩) l'.length co') lt l'∧KeepsK w w':=by
 have hq:∃cur,w.heap[q]? =some (.cells cur 47 (0,0)):=by
  rcases h.o.2 with⟨hv,_⟩|⟨g,cap,cur,hv,_,hgg,_⟩
  ·cases hv
  ·cases hv;exact⟨cur,hgg⟩
 obtain⟨cq,hq⟩:=hq;have kk:KeepsK w w':=⟨hg.size,fun k cs t hk _ h1=>hg.block k (Array.getElem?_eq_some_iff.1 hk).1 (fun e=>by
  cases e;rw[hq]at hk;simp only[Option.some.injEq,Obj.cells.injEq,and_true]at hk;exact h1 hk.2.symm)⟩
 refine⟨⟨?_,ho,fun y hy=>(h.tn y hy).keeps kk.l,fun y hy=>(h.on y (hp y hy)).keeps kk.l,h.tc,fun y hy=>h.oc y (hp y hy)⟩,kk⟩;refine⟨h.t.1,?_⟩;rcases h.t.2 with hn|⟨g,cap,cur,hv,hbg,hgg,rest⟩
 ·exact .inl hn
 ·refine .inr ⟨g,cap,cur,hv,hbg,?_,rest⟩;refine(hg.block g (Array.getElem?_eq_some_iff.1 hgg).1 (fun e=>?_)).trans hgg;cases e;rw[hq]at hgg;simp at hgg
theorem KSt.setW{w:World}{B P i:Nat}{vt vo:Value}{lt:List ThrV}{lo:List ObjV}{cs:Array Value}(h:KSt w B vt vo lt lo)(hb:Blk w P (.cells cs 117))(u:Value):KSt (w.setCell ⟨P,i,none⟩ u) B vt vo lt lo:=by
 have k:=keeps_set (i:=i) hb (by decide) u;exact⟨h.t.set hb (by decide) u,h.o.set hb (by decide) u,fun x hx=>(h.tn x hx).keeps k,fun x hx=>(h.on x hx).keeps k,h.tc,h.oc⟩
theorem sub_flat{L' L:List (List Nat)}(h:L'.Sublist L):L'.flatten.Sublist L.flatten:=by
 induction h with
 |slnil=>exact List.Sublist.refl _
 |cons a _ ih=>exact ih.trans (List.sublist_append_right _ _)
 |cons_cons a _ ih=>exact(List.Sublist.refl a).append ih
theorem Apart.subO{lt:List ThrV}{l l':List ObjV}(h:Apart lt l)(hs:l'.Sublist l):Apart lt l':=
 ⟨h.c.sublist ((List.Sublist.refl _).append (sub_flat (hs.map _))),h.i.sublist ((List.Sublist.refl _).append (sub_flat (hs.map _))),h.s.sublist (sub_flat (hs.map _))⟩
section
variable {E:Nat→Addr}{w:World}{B P:Nat}{s:StepV}{g ca q co:Nat}{lt:List ThrV}{lo:List ObjV}{t c C:Nat}{nb:Nat→Nat}{kv:Nat→Value}{K:Nat→List Int}{X:ThrV}
theorem Env.nodes(v:Env E w B P s g ca q co lt lo t c C nb kv K X):Nodes w C c lo.length (fun i=>(atOwnOb lo i).id) q 0 nb kv (kidsTo (fun i=>(atOwnOb lo i).id) (fun i=>(atOwnOb lo i).up) lo.length):=
 ⟨v.n.map,v.n.blk,v.n.inj,fun i hi=>by have h:=v.n.own i hi;rw[v.kid i hi]at h;exact h,v.n.apart,v.n.low,v.n.lowc⟩
theorem root_iff{lt:List ThrV}{lo:List ObjV}(ok:okL lt lo=true){u:Nat}(hu:u<lo.length):(atOwnOb lo u).id=1↔u=0:=by
 have r:=(okL_root ok).2.1;constructor
 ·intro h;by_cases e:u=0
  ·exact e
  ·have h':(atOwnOb lo 0).id<(atOwnOb lo u).id:=(kerOk_iff.1 ok).rise 0 u (by omega) hu;omega
 ·intro e;subst e;exact r
theorem drop_any(v:Env E w B P s g ca q co lt lo t c C nb kv K X)(hk:s.kind=11):
 Calls Tryz.prog 106 #[.pointer (some ⟨P,0,none⟩)] w fun e w'=>∃r,e= .returned r∧RunP E B P s lt lo t X (.map (some c)) w w' ⟨#[]⟩ r:=by
 have VV:=hid v;have HK:=hid hk;obtain⟨⟨s0,s1,s2,s3,s4,s5,s6,s7,s8,s9⟩,_,_,c12,c13⟩:=Blk.work (show Blk w.drew P _ from v.h.wk);obtain⟨⟨k0,k1,k2,k3,k4,k5,k6,k7,k8,k9⟩,_,_,v12,v13⟩:=v.h.wk.work;have LK:=(v.n.below (Below.refl _ w).drew).map.look (idW (stepF v.so));have LK2:=v.n.map.look (idW (stepF v.so));have BX:Hid (∀W,Below w.heap.size w W→Blk W P (.cells (wkCs s g lt.length ca q lo.length co t (.map (some c))) 117)∧Cells7 W g (t*7) X∧(∀i,i<lo.length→W.cell? ⟨nb i,0,none⟩=some (.pointer (some ⟨q,i*10,none⟩))∧W.cell? ⟨nb i,1,none⟩=some (kv i))∧(∀i,i<lo.length→Cells10 W q (i*10) (atOwnOb lo i))):=hid (fun W hW=>by
  have V:=VV.out.below hW;have C7:=(V.h.st.cell7 V.ht).1;rw[←V.hX]at C7;refine⟨V.h.wk,C7,fun i hi=>?_,fun i hi=>?_⟩
  ·have b:=V.n.blk i hi;rw[Nat.zero_add]at b;exact b.two
  ·have C0:=(V.h.st.cell10 hi (okL_data V.ok)).1;rw[←atOwnOb_get hi]at C0;exact C0)
 clear v hk;cases hf:atL lo s.id with
 |none=>
  rw[show findI (fun i=>(atOwnOb lo i).id) lo.length s.id=none from hf]at LK LK2;simp only[Option.map_none]at LK LK2;have AN:Hid (ActP X s lt lo t 4 ⟨#[]⟩ lt lo):=hid (.drop HK.out rfl rfl (.inl ⟨rfl,by unfold dropB;rw[hf],rfl⟩));clear hf;go_enter Tryz.func106,Tryz.ntmps106
  go_upto_region 1 with fail
  go_cut[3] from 5 (fun a wc=>a= .pointer none∧wc=w.drew)
  case first=>
   go_region_law fail
   all_goals(
    go_wp2_with fail
    go_meet;case rel=>exact⟨rfl,rfl⟩)
  case rest=>
   obtain⟨rfl,rfl⟩:=hcut;clear LK LK2 s0 s1 s2 s3 s4 s5 s6 s7 s8 s9 c12 c13 k0 k1 k2 k3 k4 k5 k6 k7 k8 k9 v12 v13;have A1:=hid (Below.refl w.heap.size w).drew;have e9:=((VV.out.below A1.out).e 6 (by omega) (by omega)).1;have sz:=(VV.out.below A1.out).hB;go_wp2_with fail
   refine(denied_any 264 (.pointer (some (E 6))) _).mono ?_;rintro e w9 ⟨rfl,rfl⟩;go_wp2;go_ret;have b3:=then_ A1.out ((Below.refl _ _).alloc (Nat.le_refl _) (.cells #[.int .i64 4,.iface 264 (.pointer (some (E 6)))] 71));exact⟨_,rfl,.no (.of (VV.out.below b3).h.wk) (b3.mono VV.out.hB) (told_new _ E sz 4 (by decide) 6 (by decide) (by decide) (by decide) (by first|rfl|simp)) (by decide) (AN.out)⟩
 |some u=>
  rw[show findI (fun i=>(atOwnOb lo i).id) lo.length s.id=some u from hf]at LK LK2;simp only[Option.map_some]at LK LK2;have HF:=hid hf;have ul:u<lo.length:=(findI_some hf).1;clear hf;go_enter Tryz.func106,Tryz.ntmps106
  go_upto_region 1 with fail
  go_cut[3] from 5 (fun a wc=>a= .pointer (some ⟨nb u,0,none⟩)∧wc=w.drew)
  case first=>
   go_region_law fail
   all_goals(
    go_wp2_with fail
    go_meet;case rel=>exact⟨rfl,rfl⟩)
  case rest=>
  obtain⟨rfl,rfl⟩:=hcut;clear LK LK2 s0 s1 s2 s3 s4 s5 s6 s7 s8 s9 c12 c13 k0 k1 k2 k3 k4 k5 k6 k7 k8 k9 v12 v13;have A1:=hid (Below.refl w.heap.size w).drew;have n0:=((BX.out _ A1.out).2.2.1 u ul).1;have o0:w.drew.cell? ⟨q,u*10,none⟩=some (.int .i64 (atOwnOb lo u).id):=((BX.out _ A1.out).2.2.2 u ul).c0;by_cases h1:(atOwnOb lo u).id=1
  ·have AN:Hid (ActP X s lt lo t 4 ⟨#[]⟩ lt lo):=hid (.drop HK.out rfl rfl (.inl ⟨rfl,by unfold dropB;rw[HF.out,(root_iff VV.out.ok ul).1 h1];rfl,rfl⟩));rw[h1]at o0;clear h1;have e9:=((VV.out.below A1.out).e 7 (by omega) (by omega)).1;have sz:=(VV.out.below A1.out).hB;go_wp2_with fail
   refine(denied_any 264 (.pointer (some (E 7))) _).mono ?_;rintro e w9 ⟨rfl,rfl⟩;go_wp2;go_ret;have b3:=then_ A1.out ((Below.refl _ _).alloc (Nat.le_refl _) (.cells #[.int .i64 4,.iface 264 (.pointer (some (E 7)))] 71));exact⟨_,rfl,.no (.of (VV.out.below b3).h.wk) (b3.mono VV.out.hB) (told_new _ E sz 4 (by decide) 7 (by decide) (by decide) (by decide) (by first|rfl|simp)) (by decide) (AN.out)⟩
  ·have z1:((atOwnOb lo u).id==1)=false:=(by simpa using h1);have u0:u≠0:=fun e=>h1 ((root_iff VV.out.ok ul).2 e);obtain⟨p,hp⟩:∃p,atL lo (atOwnOb lo u).up=some p:=ups_found (k:=kOf none 0 none 0 lt lo) VV.out.ok ul u0;have HP:=hid hp;have pl:p<lo.length:=(findI_some hp).1;have UW:(Lit.int .i64 (atOwnOb lo u).up).wf=true:=by
    rw[←(findI_some hp).2];exact id_wf (okL_id VV.out.ok _ (atOb_mem pl))
   have LKP:Hid (∀W,Below w.heap.size w W→_):=hid (fun W hW=>by
    have L:=(VV.out.below hW).n.map.look UW;rw[show findI (fun i=>(atOwnOb lo i).id) lo.length (atOwnOb lo u).up=some p from hp]at L;exact L)
   clear h1 hp UW;go_upto_region 6 with fail
   clear n0 o0;have D0:=hid (A1.out.drew);have EC:Hid (∀args w,(callFunc 22 args).run Tryz.prog w= .ok (.enter 22 args) w):=hid (enters_of Tryz.func22 (by kernel_rfl) rfl);have EB:Hid (∀args w,(callFunc 59 args).run Tryz.prog w= .ok (.enter 59 args) w):=hid (enters_of Tryz.func59 (by kernel_rfl) rfl);have PS:=hid (calls_v (VV.out.changes p pl _ D0.out));refine wp_region_G 27 (fun W=>Below w.heap.size w W) (by kernel_rfl) ?_;have n1:Nv (.pointer (some ⟨P,0,none⟩)):=⟨⟩;refine tq 0 32 n1 D0.out ?_;simp only[ap,List.set];refine tq 1 33 n1 D0.out ?_;simp only[ap,List.set];refine tq 2 34 (.pointer (some ⟨P,12,none⟩)) D0.out ?_;simp only[ap,List.set];have n9:Nv (.pointer (some ⟨g,t*7,none⟩)):=⟨⟩;refine tq 3 35 n9 D0.out ?_ (hy:=fun W h=>by obtain⟨⟨k0,k1,k2,k3,k4,k5,k6,k7,k8,k9⟩,k10,k11,k12,k13⟩:=(BX.out W h).1.work;go_simp);simp only[ap,List.set];refine tq 4 36 n9 D0.out ?_;simp only[ap,List.set];refine tq 5 37 (.agg #[.int .i64 X.id,.int .i64 X.b1,.slice X.c1.a X.c1.n X.c1.k,.int .i64 X.b2,.slice X.c2.a X.c2.n X.c2.k,.slice X.own.a X.own.n X.own.k,.int .i64 X.made]) D0.out ?_ (hy:=fun W h=>by have C:=(BX.out W h).2.1;have y0:=C.c0;have y1:=C.c1;have y2:W.cell? ⟨g,t*7+2,none⟩=some (.slice X.c1.a X.c1.n X.c1.k):=C.c2;have y3:=C.c3;have y4:W.cell? ⟨g,t*7+4,none⟩=some (.slice X.c2.a X.c2.n X.c2.k):=C.c4;have y5:W.cell? ⟨g,t*7+5,none⟩=some (.slice X.own.a X.own.n X.own.k):=C.c5;have y6:=C.c6;go_simp);simp only[ap,List.set];refine tq 6 38 n1 D0.out ?_;simp only[ap,List.set];refine tq 7 39 n1 D0.out ?_;simp only[ap,List.set];refine tq 8 40 (.pointer (some ⟨P,13,none⟩)) D0.out ?_;simp only[ap,List.set];refine tq 9 41 (.map (some c)) D0.out ?_ (hy:=fun W h=>by obtain⟨⟨k0,k1,k2,k3,k4,k5,k6,k7,k8,k9⟩,k10,k11,k12,k13⟩:=(BX.out W h).1.work;go_simp);simp only[ap,List.set];have n2:Nv (.pointer (some ⟨nb u,0,none⟩)):=⟨⟩;refine tq 10 42 n2 D0.out ?_;simp only[ap,List.set];refine tq 11 43 n2 D0.out ?_;simp only[ap,List.set];refine tq 12 44 n2 D0.out ?_;simp only[ap,List.set];have n6:Nv (.pointer (some ⟨q,u*10,none⟩)):=⟨⟩;refine tq 13 45 n6 D0.out ?_ (hy:=fun W h=>by have y:=((BX.out W h).2.2.1 u ul).1;go_simp);simp only[ap,List.set];refine tq 14 46 n6 D0.out ?_;simp only[ap,List.set];refine tq 15 47 (.pointer (some ⟨q,u*10+2,none⟩)) D0.out ?_;simp only[ap,List.set];refine tq 16 48 (.int .i64 (atOwnOb lo u).up) D0.out ?_ (hy:=fun W h=>by have y:=((BX.out W h).2.2.2 u ul).c2;go_simp);simp only[ap,List.set];have n4:Nv (.pointer (some ⟨nb p,0,none⟩)):=⟨⟩;refine tq 17 49 n4 D0.out ?_ (hy:=fun W h=>by have y:=LKP.out W h;go_simp);simp only[ap,List.set];refine tq 18 50 n4 D0.out ?_;simp only[ap,List.set];refine tq 19 51 n4 D0.out ?_;simp only[ap,List.set];have n8:Nv (.pointer (some ⟨q,p*10,none⟩)):=⟨⟩;refine tq 20 52 n8 D0.out ?_ (hy:=fun W h=>by have y:=((BX.out W h).2.2.1 p pl).1;go_simp);simp only[ap,List.set];refine tq 21 53 n8 D0.out ?_;simp only[ap,List.set];refine tq 22 54 (.pointer (some ⟨q,p*10+3,none⟩)) D0.out ?_;simp only[ap,List.set];refine tq 23 55 (.agg #[.int .i64 (atOwnOb lo p).b1,.slice (atOwnOb lo p).c1.a (atOwnOb lo p).c1.n (atOwnOb lo p).c1.k]) D0.out ?_ (hy:=fun W h=>by have C:=(BX.out W h).2.2.2 p pl;have y1:W.cell? ⟨q,p*10+3,none⟩=some (.int .i64 (atOwnOb lo p).b1):=C.c3;have y2:W.cell? ⟨q,p*10+3+1,none⟩=some (.slice (atOwnOb lo p).c1.a (atOwnOb lo p).c1.n (atOwnOb lo p).c1.k):=C.c4;go_simp);simp only[ap,List.set];refine wpAnyG_one (i:=24) (by kernel_rfl) rfl ?_;intro K hK;refine step_call2g (by rfl) 22 _ _ _ (by rfl) EC.out _ _ (by rfl) (by rfl) (some 56) (by rfl) _ PS.out ?_;rintro v w4 ⟨rfl,b4⟩;have V1:=hid (then_ D0.out b4);refine hK.out _ _ (fun _=>V1.out) ?_;clear hK K b4 PS;simp only[ap,List.set];refine tq 25 57 (.bool (!changesB X (atOwnOb lo p).b1 (atOwnOb lo p).c1)) V1.out ?_;simp only[ap,List.set];refine tq 26 31 (.bool (!changesB X (atOwnOb lo p).b1 (atOwnOb lo p).c1)) V1.out ?_;simp only[ap,List.set];refine wpAnyG_done (by kernel_rfl) ?_ _;cases hc:changesB X (atOwnOb lo p).b1 (atOwnOb lo p).c1 with
   |false=>
    have AN:Hid (ActP X s lt lo t 4 ⟨#[]⟩ lt lo):=hid (.drop HK.out rfl rfl (.inl ⟨rfl,by unfold dropB;rw[HF.out];simp only;rw[HP.out];simp only;rw[hc];simp,rfl⟩));clear hc;have e9:=((VV.out.below V1.out).e 8 (by omega) (by omega)).1;have sz:=(VV.out.below V1.out).hB;go_wp2_with fail
    refine(denied_any 264 (.pointer (some (E 8))) _).mono ?_;rintro e w9 ⟨rfl,rfl⟩;go_wp2;go_ret;have b3:=then_ V1.out ((Below.refl _ _).alloc (Nat.le_refl _) (.cells #[.int .i64 4,.iface 264 (.pointer (some (E 8)))] 71));exact⟨_,rfl,.no (.of (VV.out.below b3).h.wk) (b3.mono VV.out.hB) (told_new _ E sz 4 (by decide) 8 (by decide) (by decide) (by decide) (by first|rfl|simp)) (by decide) (AN.out)⟩
   |true=>
    have DB:Hid (dropB X lo s.id=true):=hid (by unfold dropB;rw[HF.out];simp only;rw[HP.out];simp only;rw[hc];simp;omega);clear hc;go_upto_region 8 with fail
    have D2:=hid V1.out.drew;have PB:Hid (∀W,Below w.heap.size w W→Calls Tryz.prog 59 #[.map (some c),.int .i64 (atOwnOb lo u).id] W fun e w'=>∃v,e= .returned v∧∃(a:Option Addr) (k:Nat),v= .slice a (goneL lo u).length k∧OwnI w' W.heap.size (.slice a (goneL lo u).length k) (goneL lo u)∧Below W.heap.size W w'):=hid (fun W hW=>by
     have V:=VV.out.below hW;have ok:=V.ok;have ho:objsOk lo.length (atOwnOb lo)=true:=(kerOk_parts (k:=kOf none 0 none 0 lt lo) ok).2.1;have on:=okL_on ok;refine(below_any W C c lo.length (fun i=>(atOwnOb lo i).id) (fun i=>(atOwnOb lo i).up) q 0 nb kv V.nodes (objsOk_rises ho) (fun j hj=>by have:=objsOk_pos ho j hj;have:=(objsOk_root ho).2.2;omega) (fun i hi=>id_wf (okL_id ok _ (atOb_mem hi))) (by omega) u ul (ker_noCyc (k:=kOf none 0 none 0 lt lo) ok ul)).mono ?_;rintro e w' ⟨v,rfl,h1,h2⟩;obtain⟨a,k,rfl⟩:=OwnI.form h1;exact⟨_,rfl,a,k,rfl,h1,h2⟩)
    go_cut[4] from 60 (fun x wc=>∃(vb:Nat) (a:Option Addr) (k:Nat),x= .pointer (some ⟨vb,0,none⟩)∧Blk wc vb (.cells #[.slice a (goneL lo u).length k] 40)∧OwnI wc w.heap.size (.slice a (goneL lo u).length k) (goneL lo u)∧Below w.heap.size w wc∧w.heap.size≤vb)
    case first=>
     refine wp_region_G 13 (fun W=>Below w.heap.size w W) (by kernel_rfl) ?_;have n10:Nv (.pointer (some ⟨P,0,none⟩)):=⟨⟩;refine tq 0 60 n10 D2.out ?_;simp only[ap,List.set];refine tq 1 61 n10 D2.out ?_;simp only[ap,List.set];refine tq 2 62 (.pointer (some ⟨P,13,none⟩)) D2.out ?_;simp only[ap,List.set];refine tq 3 63 (.map (some c)) D2.out ?_ (hy:=fun W h=>by obtain⟨⟨k0,k1,k2,k3,k4,k5,k6,k7,k8,k9⟩,k10,k11,k12,k13⟩:=(BX.out W h).1.work;go_simp);simp only[ap,List.set];have n3:Nv (.pointer (some ⟨nb u,0,none⟩)):=⟨⟩;refine tq 4 64 n3 D2.out ?_;simp only[ap,List.set];refine tq 5 65 n3 D2.out ?_;simp only[ap,List.set];refine tq 6 66 n3 D2.out ?_;simp only[ap,List.set];have n7:Nv (.pointer (some ⟨q,u*10,none⟩)):=⟨⟩;refine tq 7 67 n7 D2.out ?_ (hy:=fun W h=>by have y:=((BX.out W h).2.2.1 u ul).1;go_simp);simp only[ap,List.set];refine tq 8 68 n7 D2.out ?_;simp only[ap,List.set];refine tq 9 69 n7 D2.out ?_;simp only[ap,List.set];refine tq 10 70 (.int .i64 (atOwnOb lo u).id) D2.out ?_ (hy:=fun W h=>by have y:=((BX.out W h).2.2.2 u ul).c0;go_simp);simp only[ap,List.set];refine wpAnyG_two (i:=11) (j:=12) (by kernel_rfl) rfl rfl ?_ ?_
     ·intro K hK;refine step_call2g (by rfl) 59 _ _ _ (by rfl) EB.out _ _ (by rfl) (by rfl) (some 71) (by rfl) _ (PB.out _ D2.out) ?_;rintro v w5 ⟨a,k,rfl,o5,b5⟩;have V5:=hid (then_ D2.out b5);have O5:=hid o5;refine hK.out _ _ (fun _=>V5.out) ?_;clear hK K o5 b5;simp only[ap,List.set];refine wpAnyG_one (i:=12) (by kernel_rfl) rfl ?_;intro K hK;go_simp;have V6:=hid (then_ V5.out ((Below.refl _ w5).alloc (Nat.le_refl _) (.cells #[.slice none 0 0] 40)));refine hK.out _ _ (fun _=>V6.out) ?_;clear hK K;try simp only[ap,List.set]
      refine wpAnyG_one (i:=13) (by kernel_rfl) rfl ?_;intro K hK;go_simp;refine hK.out _ _ (fun h=>absurd h (by decide)) ?_;clear hK K;try simp only[Act.put]
      refine wpAnyG_done (by kernel_rfl) ?_ _;go_wp2_with fail
      go_meet;case rel=>
       have b6:=(Below.refl _ w5).alloc (Nat.le_refl _) (.cells #[.slice a (goneL lo u).length k] 40);exact⟨w5.heap.size,a,k,rfl,Blk.new w5 _,OwnI.base (own_below O5.out b6) D2.out.size,then_ V5.out b6,V5.out.size⟩
     ·intro K hK;have n5:No (.cells #[.slice none 0 0] 40):=⟨⟩;have V5:=hid (D2.out.alloc D2.out.size n5);have ZV:Hid (Blk (w4.alloc n5).drew w4.heap.size n5):=hid (Blk.new w4 _);go_simp;refine hK.out _ _ (fun _=>V5.out) ?_;clear hK K;try simp only[ap,List.set]
      refine wpAnyG_one (i:=11) (by kernel_rfl) rfl ?_;intro K hK;refine step_call2g (by rfl) 59 _ _ _ (by rfl) EB.out _ _ (by rfl) (by rfl) (some 71) (by rfl) _ (PB.out _ V5.out) ?_;rintro v w6 ⟨a,k,rfl,o6,b6⟩;have V6:=hid (then_ V5.out b6);have O6:=hid o6;have Z6:=hid (ZV.out.below b6);refine hK.out _ _ (fun _=>V6.out) ?_;clear hK K o6 b6;simp only[ap,List.set];have z0:w6.cell? ⟨w4.heap.size,0,none⟩=some (.slice none 0 0):=(by have h:=Z6.out;unfold Blk at h;simp[World.cell?,h]);have zf:=Z6.out.warm;refine wpAnyG_one (i:=13) (by kernel_rfl) rfl ?_;intro K hK;go_simp;refine hK.out _ _ (fun h=>absurd h (by decide)) ?_;clear hK K;try simp only[Act.put]
      refine wpAnyG_done (by kernel_rfl) ?_ _;go_wp2_with fail
      go_meet;case rel=>
       have gs:=grown_set1 (w:=w6) (w1:=w6) (q:=w4.heap.size) ⟨rfl,rfl,rfl,Nat.le_refl _,fun _ _ _=>rfl⟩ 0 (.slice a (goneL lo u).length k);exact⟨w4.heap.size,a,k,rfl,Z6.out.setAt (i:=0) _,OwnI.base (World.ownsRow.kept O6.out gs (.inr (fun e=>absurd (World.ownsRow.lt O6.out w4.heap.size e).1 (by simp)))) V5.out.size,V6.out.setCell (p:=⟨w4.heap.size,0,none⟩) V1.out.size _,V1.out.size⟩
    case rest=>
     obtain⟨vb,a,k,rfl,BV,OG,hb,hvb⟩:=hcut;generalize wc=w6 at *;have BV':=hid BV;have OG':=hid OG;have A6:=hid hb;clear BV OG hb;have V6:=VV.out.below A6.out;have ql:q<w.heap.size:=(VV.out.h.st.cell10 ul (okL_data VV.out.ok)).2;have vc:w6.cell? ⟨vb,0,none⟩=some (.slice a (goneL lo u).length k):=(by have h:=BV'.out;unfold Blk at h;simp[World.cell?,h]);have on:=okL_on VV.out.ok;have ogl:(goneL lo u).length≤maxLen:=Nat.le_trans (own_cap OG'.out).1 (own_cap OG'.out).2;have DF:=hid (deleteF_any B q co vb lo ⟨a,(goneL lo u).length,k,nthI (goneL lo u)⟩ w6 V6.h.st.o (by omega) vc BV'.out.lt (by omega) (fun W hW=>(OwnI.new (World.ownsRow.kept OG'.out hW (.inr (fun e=>by have h:=(World.ownsRow.lt OG'.out q e).1;omega))) ogl).1));have H6:=hid V6.h;obtain⟨⟨k0,k1,k2,k3,k4,k5,k6,k7,k8,k9⟩,k10,k11,k12,k13⟩:=V6.h.wk.work;clear V6 vc;go_wp2_with fail
     refine DF.out.mono ?_;rintro e w7 ⟨rfl,o7,g7⟩;obtain⟨K7,kk⟩:=H6.out.st.subO o7 g7 (fun x hx=>(List.mem_filter.1 hx).1);have BP:=H6.out.wk.grown g7 (fun e=>H6.out.setQ (Option.some.inj e));obtain⟨⟨j0,j1,j2,j3,j4,j5,j6,j7,j8,j9⟩,j10,j11,j12,j13⟩:=BP.work;have pf:=BP.warm;have AP7:=hid (H6.out.ap.subO (l':=keepL ⟨a,(goneL lo u).length,k,nthI (goneL lo u)⟩ lo) List.filter_sublist);have KF:=hid K7;have BP':=hid BP;have hBq:B≤q:=(World.ownsRow.lt H6.out.st.o q rfl).1;have B7:Hid (Below B w w7):=hid ((A6.out.mono VV.out.hB).trans (below_grown g7 (Nat.le_trans VV.out.hB A6.out.size) (fun j e=>by have:=Option.some.inj e;omega)));have lp:=H6.out.lp;clear K7 kk BP o7 g7 k0 k1 k2 k3 k4 k5 k6 k7 k8 k9 k10 k11 k12 k13;go_wp2;go_ret;refine⟨_,rfl,.yes (B7.out.setCell (p:=⟨P,11,none⟩) lp _) ⟨(KF.out.setW BP'.out _).f,AP7.out,BP'.out.setAt (i:=11) _⟩ (.drop HK.out rfl rfl (.inr ⟨rfl,DB.out,u,HF.out,by omega,?_⟩))⟩;unfold stayL keepL;rw[List.take_of_length_le (Nat.le_refl _)]
end
theorem runs_drop(E:Nat→Addr){s:StepV}(hk:s.kind=11):Runs E s:=by
 intro w B P g ca q co lt lo t c C nb kv K X v h18;have VV:=hid v;obtain⟨⟨k0,k1,k2,k3,k4,k5,k6,k7,k8,k9⟩,k10,k11,k12,k13⟩:=v.h.wk.work;clear v;have CC:=hid (drop_any VV.out hk);rw[hk]at k1;clear hk;go_enter Tryz.func70,Tryz.ntmps70
 go_wp2_with fail
 refine CC.out.mono ?_;rintro e w9 ⟨r,rfl,rp⟩;have RP:=hid rp.q;clear rp;go_wp2;go_ret2;exact⟨_,_,rfl,RP.out⟩
theorem lawHas_any(a:Option Addr)(n cap:Nat)(h:Nat→Int)(x:Int)(w:World)(hn:n≤maxLen)(hc:IntsAt w a n h):
 Calls Tryz.prog 20 #[.slice a n cap,.int .i64 x] w fun e w'=>e= .returned (.bool (hasB n h x))∧w'=w:=by
 unfold maxLen at hn;go_enter Tryz.func20,Tryz.ntmps20
 go_wp2;go_loop [5] (fun i=>∃k:Nat,k≤n∧i= .int .i64 k∧(∀j,j<k→h j≠x)) (fun i=>n-(intOf i).toNat)
 case atStart=>exact⟨0,Nat.zero_le _,rfl,fun j hj=>by omega⟩
 case round=>
  obtain⟨k,hk,rfl,hall⟩:=hrel;have HA:Hid (∀j,j<k→h j≠x):=hall;clear hall;by_cases hlt':k<n
  ·obtain⟨b,off,rfl,hlt,hcc⟩:=hc (by omega);have g1:=hcc k hlt';clear hcc hc;by_cases t:(h k==x)=true
   ·go_wp2;go_ret;exact⟨ret_bool (hasB_yes hlt' (by simpa using t)).symm,rfl⟩
   ·have t':(h k==x)=false:=(by simpa using t);clear t;go_wp2;go_round;case rel=>
     refine⟨k+1,by omega,by go_num,fun j hj=>?_⟩;by_cases e:j=k
     ·subst e;simpa using t'
     ·exact HA.out j (by omega)
    case measure=>simp[intOf];omega
  ·clear hc;go_wp2;go_ret;have e:k=n:=(by omega);subst e;exact⟨ret_bool (hasB_no HA.out).symm,rfl⟩
end Go.Proofs.YtallmkehpfaaeaaGreatDoor
