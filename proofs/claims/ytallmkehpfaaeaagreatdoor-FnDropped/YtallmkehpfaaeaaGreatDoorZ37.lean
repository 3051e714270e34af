import Derived.Test.YtallmkehpfaaeaaGreatDoorZ11
import Derived.Test.YtallmkehpfaaeaaGreatDoorZ0
import Derived.Test.YtallmkehpfaaeaaGreatDoorZ36
import Derived.Lib.AppendIntMem
import Derived.Test.YtallmkehpfaaeaaGreatDoorNU1
import Derived.Test.YtallmkehpfaaeaaGreatDoorZ5
import Derived.Test.YtallmkehpfaaeaaGreatDoorZ13
import Derived.Test.YtallmkehpfaaeaaGreatDoorNE2
import Derived.Test.YtallmkehpfaaeaaGreatDoorZ28
import Derived.Test.YtallmkehpfaaeaaGreatDoorZ31
import Derived.Test.YtallmkehpfaaeaaGreatDoorZ16
import Derived.Test.YtallmkehpfaaeaaGreatDoorND2
import Derived.Lib.SliceRun
set_option maxRecDepth 100000
set_option maxHeartbeats 16000000
namespace Go.Proofs.YtallmkehpfaaeaaGreatDoor
open Go.RowKit Go.Deep Go.Maps
def Tab(w:World):Prop:=Lib.TabIs Tryz.prog w "internal/strconv.uint64pow10" .u64 Lib.pow10Tab
theorem Tryz.tabSome:(Tryz.prog.globalNamed "internal/strconv.uint64pow10").isSome=true:=by kernel_rfl
theorem Tryz.tabNamed:∃g,Tryz.prog.globalNamed "internal/strconv.uint64pow10" =some g:=Option.isSome_iff_exists.1 Tryz.tabSome
theorem Tab.below{w w':World}(h:Tab w)(hb:Below w.heap.size w w'):Tab w':=by
 obtain⟨g,hg⟩:=Tryz.tabNamed;unfold Tab Lib.TabIs at *;refine var?_below hb hg ?_ h;rcases Nat.lt_or_ge g w.heap.size with h'|h'
 ·exact h'
 ·exfalso;simp[World.var?,hg,Array.getElem?_eq_none h']at h
open Go Go.BigFrame Go.Shelf
theorem own_below{w w':World}{B e size n:Nat}{v:Value}{xs:List Value}(h:w.ownsRow B e size v n xs)(hb:Below w.heap.size w w'):w'.ownsRow B e size v n xs:=by
 refine⟨h.1,?_⟩;rcases h.2 with h2|⟨g,cap,cur,hv,h1,h2,h3,h4,h5,h6⟩
 ·exact .inl h2
 ·refine .inr ⟨g,cap,cur,hv,h1,?_,h3,h4,h5,h6⟩;rw[hb.block g (by rcases Nat.lt_or_ge g w.heap.size with h|h;exact h;simp[Array.getElem?_eq_none h]at h2)];exact h2


theorem thrOk_of{X:ThrV}(h:ThrF X):thrOk X.id X.made X.b1 X.c1.n X.c1.f X.c1.g X.b2 X.c2.n X.c2.f X.c2.g X.own.n X.own.h=true:=thrF_iff.2 h
theorem changes_i{X:ThrV}{b:Int}{c:CatL}{W:World}(hX:X.at W)(hc:c.at W)(hF:ThrF X)(l:labOk b c.n c.f c.g=true):
 Calls Tryz.prog 22 #[.agg #[.int .i64 X.id,.int .i64 X.b1,.slice X.c1.a X.c1.n X.c1.k,.int .i64 X.b2,.slice X.c2.a X.c2.n X.c2.k,.slice X.own.a X.own.n X.own.k,.int .i64 X.made],.agg #[.int .i64 b,.slice c.a c.n c.k]] W fun e w'=>e= .returned (.bool (changesB X b c))∧Below W.heap.size W w':=by
 refine(implChanges_any X.id X.made X.b1 X.c1.a X.c1.n X.c1.k X.c1.f X.c1.g X.b2 X.c2.a X.c2.n X.c2.k X.c2.f X.c2.g X.own.a X.own.n X.own.k X.own.h b c.a c.n c.k c.f c.g W hX.1.1 hX.2.1.1 hX.2.2.1 hX.1.2 hX.2.1.2 hX.2.2.2 hc.1 hc.2).mono ?_;rintro e w' ⟨rfl,hb⟩;refine⟨?_,hb⟩;unfold changesF seesF reachF changesB seesB;rw[thrOk_of hF,l];simp
structure Env(E:Nat→Addr)(w:World)(B P:Nat)(s:StepV)(g ca q co:Nat)(lt:List ThrV)(lo:List ObjV)(t c C:Nat)(nb:Nat→Nat)(kv:Nat→Value)(K:Nat→List Int)(X:ThrV):Prop where
 h:WSt w B P s g ca q co lt lo t (.map (some c))
 n:Nodes w C c lo.length (fun i=>(atOwnOb lo i).id) q 0 nb kv K
 e:Errs w E
 h14:14≤B
 hB:B≤w.heap.size
 ht:t<lt.length
 hX:X=lt[t]
 hs:∀W,Below B w W→s.at W
 so:s.ok=true
 ok:okL lt lo=true
 tab:Tab w
 kid:∀u,u<lo.length→K u=inX (atOwnOb lo) (atOwnOb lo u).id lo.length
 ti:Tight lo
theorem id_wf{x:Int}(h:0≤x∧x≤1000000):(Lit.int .i64 x).wf=true:=by
 have e1:IntKind.i64.min= -9223372036854775808:=by decide
 have e2:IntKind.i64.max=9223372036854775807:=by decide
 simp only[Lit.wf,Bool.and_eq_true,decide_eq_true_eq,e1,e2];omega
theorem atOb_mem{lo:List ObjV}{u:Nat}(h:u<lo.length):atOwnOb lo u∈lo:=by rw[atOwnOb_get h];exact List.getElem_mem h
section
variable {E:Nat→Addr}{w W:World}{B P:Nat}{s:StepV}{g ca q co:Nat}{lt:List ThrV}{lo:List ObjV}{t c C:Nat}{nb:Nat→Nat}{kv:Nat→Value}{K:Nat→List Int}{X:ThrV}
theorem Tab.low{w w':World}(h:Tab w)(hb:Below w.heap.size w w'):Tab w':=h.below hb
theorem Env.below(v:Env E w B P s g ca q co lt lo t c C nb kv K X)(hb:Below w.heap.size w W):Env E W B P s g ca q co lt lo t c C nb kv K X:=
 ⟨v.h.below hb,v.n.below hb,v.e.below v.h14 (hb.mono v.hB),v.h14,Nat.le_trans v.hB hb.size,v.ht,v.hX,fun W' hW=>v.hs W' ((hb.mono v.hB).trans hW),v.so,v.ok,v.tab.below hb,v.kid,v.ti⟩
theorem Env.thr(v:Env E w B P s g ca q co lt lo t c C nb kv K X):ThrF X:=by rw[v.hX];exact okL_thr v.ok _ (List.getElem_mem v.ht)
theorem Env.xat(v:Env E w B P s g ca q co lt lo t c C nb kv K X):X.at w:=by rw[v.hX];exact(v.h.st.tn _ (List.getElem_mem v.ht)).at
theorem Env.oat(v:Env E w B P s g ca q co lt lo t c C nb kv K X){u:Nat}(hu:u<lo.length):(atOwnOb lo u).at w:=by
 rw[atOwnOb_get hu];exact⟨(v.h.st.on _ (List.getElem_mem hu)).1.1,(v.h.st.on _ (List.getElem_mem hu)).2.1.1,(v.h.st.on _ (List.getElem_mem hu)).2.2.1.1,(v.h.st.on _ (List.getElem_mem hu)).2.2.2.1,okL_data v.ok _ (List.getElem_mem hu)⟩
theorem Env.obj(v:Env E w B P s g ca q co lt lo t c C nb kv K X){u:Nat}(hu:u<lo.length):ObjF (atOwnOb lo u):=okL_obj v.ok _ (atOb_mem hu)
theorem Env.changes(v:Env E w B P s g ca q co lt lo t c C nb kv K X)(p:Nat)(hp:p<lo.length)(W:World)(hb:Below w.heap.size w W):
 Calls Tryz.prog 22 #[.agg #[.int .i64 X.id,.int .i64 X.b1,.slice X.c1.a X.c1.n X.c1.k,.int .i64 X.b2,.slice X.c2.a X.c2.n X.c2.k,.slice X.own.a X.own.n X.own.k,.int .i64 X.made],.agg #[.int .i64 (atOwnOb lo p).b1,.slice (atOwnOb lo p).c1.a (atOwnOb lo p).c1.n (atOwnOb lo p).c1.k]] W fun e w'=>e= .returned (.bool (changesB X (atOwnOb lo p).b1 (atOwnOb lo p).c1))∧Below W.heap.size W w':=
 changes_i (v.xat.below hb) ((v.oat hp).1.below hb) v.thr (v.obj hp).l1
theorem idW{s:StepV}(sf:StepF s):(Lit.int .i64 s.id).wf=true:=by
 refine id_wf ?_;have h:=sf.id;unfold numB at h;split at h
 ·simp only[inB_iff]at h;omega
 ·have:=beq_iff_eq.1 h;omega
end
def KP(w:World)(P:Nat):Prop:=∃(ga qa:Option Addr) (n m ca co:Nat),w.cell? ⟨P,10,none⟩=some (.slice ga n ca)∧w.cell? ⟨P,11,none⟩=some (.slice qa m co)
theorem KP.of{w:World}{P ty:Nat}{s:StepV}{g nt ca q no co t:Nat}{m:Value}(h:Blk w P (.cells (wkCs s g nt ca q no co t m) ty)):KP w P:=⟨_,_,_,_,_,_,h.work.2.1,h.work.2.2.1⟩
def RunP(E:Nat→Addr)(B P:Nat)(s:StepV)(lt:List ThrV)(lo:List ObjV)(t:Nat)(X:ThrV)(m:Value)(w w':World)(tx:ByteArray)(v:Value):Prop:=
 Below B w w'∧((KP w' P∧∃c,Told w' B E v c∧c≠0∧ActP X s lt lo t c ⟨#[]⟩ lt lo)∨(v= .nilIface∧∃(g ca q co:Nat) (lt':List ThrV) (lo':List ObjV),WStF w' B P s g ca q co lt' lo' t m∧ActP X s lt lo t 0 tx lt' lo'))
section
variable {E:Nat→Addr}{w W:World}{B P:Nat}{s:StepV}{g ca q co:Nat}{lt:List ThrV}{lo:List ObjV}{t c C:Nat}{nb:Nat→Nat}{kv:Nat→Value}{K:Nat→List Int}{X:ThrV}
theorem RunP.from{m:Value}{w':World}{tx:ByteArray}{r:Value}(h:RunP E B P s lt lo t X m W w' tx r)(hb:Below B w W):RunP E B P s lt lo t X m w w' tx r:=⟨hb.trans h.1,h.2⟩
theorem RunP.no{m:Value}{w':World}{tx:ByteArray}{r:Value}{c:Int}(kp:KP w' P)(hb:Below B w w')(ht:Told w' B E r c)(hc:c≠0)(ha:ActP X s lt lo t c ⟨#[]⟩ lt lo):RunP E B P s lt lo t X m w w' tx r:=⟨hb,.inl ⟨kp,c,ht,hc,ha⟩⟩
theorem RunP.yes{m:Value}{w':World}{tx:ByteArray}{lt':List ThrV}{lo':List ObjV}{g' ca' q' co':Nat}(hb:Below B w w')(hs:WStF w' B P s g' ca' q' co' lt' lo' t m)(ha:ActP X s lt lo t 0 tx lt' lo'):RunP E B P s lt lo t X m w w' tx .nilIface:=⟨hb,.inr ⟨rfl,_,_,_,_,_,_,hs,ha⟩⟩
end
def SameO(l l2:List ObjV):Prop:=l2.length=l.length∧∀j,j<l.length→(atOwnOb l j).same (atOwnOb l2 j)
theorem SameO.refl(l:List ObjV):SameO l l:=⟨rfl,fun _ _=>ObjV.same.refl _⟩
def RunQ(E:Nat→Addr)(B P:Nat)(s:StepV)(lt:List ThrV)(lo:List ObjV)(t:Nat)(X:ThrV)(m:Value)(w w':World)(tx:ByteArray)(v:Value):Prop:=
 Below B w w'∧((KP w' P∧∃c,Told w' B E v c∧c≠0∧ActP X s lt lo t c ⟨#[]⟩ lt lo)∨(v= .nilIface∧∃(g ca q co:Nat) (lt':List ThrV) (lo' lo2:List ObjV),WStF w' B P s g ca q co lt' lo' t m∧SameO lo' lo2∧ActP X s lt lo t 0 tx lt' lo2))
theorem RunP.q{E:Nat→Addr}{B P:Nat}{s:StepV}{lt:List ThrV}{lo:List ObjV}{t:Nat}{X:ThrV}{m:Value}{w w':World}{tx:ByteArray}{v:Value}(h:RunP E B P s lt lo t X m w w' tx v):RunQ E B P s lt lo t X m w w' tx v:=by
 refine⟨h.1,?_⟩;rcases h.2 with h|⟨h1,g,ca,q,co,lt',lo',h2,h3⟩
 ·exact .inl h
 ·exact .inr ⟨h1,g,ca,q,co,lt',lo',lo',h2,SameO.refl _,h3⟩
def Runs(E:Nat→Addr)(s:StepV):Prop:=∀{w:World}{B P g ca q co:Nat}{lt:List ThrV}{lo:List ObjV}{t c C:Nat}{nb:Nat→Nat}{kv:Nat→Value}{K:Nat→List Int}{X:ThrV},Env E w B P s g ca q co lt lo t c C nb kv K X→18≤B→
 Calls Tryz.prog 70 #[.pointer (some ⟨P,0,none⟩)] w fun e w'=>∃tx r,e= .returned (.tuple #[.string tx,r])∧RunQ E B P s lt lo t X (.map (some c)) w w' tx r
def idsL(lo:List ObjV):List Int:=lo.map (·.id)
theorem ids_range(lo:List ObjV):idsL lo=(List.range lo.length).map (fun i=>(atOwnOb lo i).id):=by
 refine List.ext_getElem (by simp[idsL]) fun j h1 h2=>?_;have hj:j<lo.length:=by simpa[idsL]using h1
 simp[idsL,atOwnOb_get hj]
theorem ids_mem{lo:List ObjV}{x:Int}:x∈idsL lo↔∃j,j<lo.length∧(atOwnOb lo j).id=x:=by
 rw[ids_range];simp[List.mem_map]
theorem ids_nodup{lo:List ObjV}(h:Rises (fun i=>(atOwnOb lo i).id) lo.length):(idsL lo).Nodup:=by
 rw[ids_range];unfold List.Nodup;refine List.Pairwise.imp (R:=(· <·)) (fun{a b} (e:a<b)=>by omega) (pair_iff.2 h)
theorem same_ids{l m:List ObjV}(h:SameO l m):idsL l=idsL m:=by
 refine List.ext_getElem (by simp[idsL,h.1]) fun j h1 h2=>?_;have h1':j<l.length:=by simpa[idsL]using h1
 have h2':j<m.length:=by simpa[idsL]using h2
 have e:=(h.2 j h1').1;rw[atOwnOb_get h1',atOwnOb_get h2']at e;simp[idsL,e]
theorem nm_same{lo lo0:List ObjV}(e:lo.map ObjV.nm=lo0.map ObjV.nm)(j:Nat):(atOwnOb lo j).nm=(atOwnOb lo0 j).nm:=by rw[←atN,←atN,e]
theorem nm_len{lo lo0:List ObjV}(e:lo.map ObjV.nm=lo0.map ObjV.nm):lo.length=lo0.length:=by simpa using congrArg List.length e
theorem nm_ids{lo lo0:List ObjV}(e:lo.map ObjV.nm=lo0.map ObjV.nm):idsL lo=idsL lo0:=by
 rw[ids_range,ids_range,nm_len e];refine List.map_congr_left fun i _=>?_;show(atOwnOb lo i).nm.id=(atOwnOb lo0 i).nm.id;rw[nm_same e i]
theorem nm_fid{lo lo0:List ObjV}(e:lo.map ObjV.nm=lo0.map ObjV.nm):(fun i=>(atOwnOb lo i).id)=(fun i=>(atOwnOb lo0 i).id):=funext fun i=>by
 show(atOwnOb lo i).nm.id=(atOwnOb lo0 i).nm.id;rw[nm_same e i]
theorem nm_fup{lo lo0:List ObjV}(e:lo.map ObjV.nm=lo0.map ObjV.nm):(fun i=>(atOwnOb lo i).up)=(fun i=>(atOwnOb lo0 i).up):=funext fun i=>by
 show(atOwnOb lo i).nm.up=(atOwnOb lo0 i).nm.up;rw[nm_same e i]
theorem nm_atL{lo lo0:List ObjV}(e:lo.map ObjV.nm=lo0.map ObjV.nm)(x:Int):atL lo x=atL lo0 x:=by
 unfold atL;rw[nm_fid e,nm_len e]
theorem nm_gone{lo lo0:List ObjV}(e:lo.map ObjV.nm=lo0.map ObjV.nm)(u:Nat):goneL lo u=goneL lo0 u:=by
 unfold goneL;rw[nm_fid e,nm_fup e,nm_len e]
theorem stay_ids(G:List Int)(lo:List ObjV):idsL (stayL G lo lo.length)=(idsL lo).filter (fun x=> !hasB G.length (nthI G) x):=by
 unfold stayL idsL;rw[List.take_length,List.filter_map];rfl
theorem filter_two(p:Int→Bool):∀l:List Int,l.length=(l.filter p).length+(l.filter (fun x=> !p x)).length
 |[]=>rfl
 |a::l=>by
  have h:=filter_two p l;cases e:p a<;>simp[e,h]<;>omega
theorem gone_ids{lt:List ThrV}{lo:List ObjV}(ok:okL lt lo=true){x:Int}{u:Nat}(hu:atL lo x=some u):
 ((idsL lo).filter (fun x=>hasB (goneL lo u).length (nthI (goneL lo u)) x)).length=(goneL lo u).length:=by
 have kk:=kerOk_iff.1 ok;obtain⟨ul,_⟩:=findI_some hu;have h0:∀j,j<lo.length→(fun i=>(atOwnOb lo i).id) j≠(fun i=>(atOwnOb lo i).up) 0:=fun j hj=>by
  have:=okL_pos ok hj;have:=(okL_root ok).2.2;show(atOwnOb lo j).id≠(atOwnOb lo 0).up;omega
 have rise:Rises (fun i=>(atOwnOb lo i).id) lo.length:=kk.rise;have hc:NoCyc (fun i=>(atOwnOb lo i).id) (fun i=>(atOwnOb lo i).up) lo.length u:=ker_noCyc ok ul;have nd:=nodup_pre rise h0 (f:=lo.length) ul hc;have mp:((preI (fun i=>(atOwnOb lo i).id) (fun i=>(atOwnOb lo i).up) lo.length lo.length u).map (fun i=>(atOwnOb lo i).id)).Nodup:=by
  unfold List.Nodup;rw[List.pairwise_map];refine List.Pairwise.imp_of_mem (fun{a b} ha hb hne e=>hne ?_) nd;exact rise.inj ((mem_pre rise h0 ul).1 ha).1 ((mem_pre rise h0 ul).1 hb).1 e
 have gn:(goneL lo u).Nodup:=(sortL_rise mp).imp (fun{a b} (e:a<b)=>by omega);refine List.Perm.length_eq ((List.perm_ext_iff_of_nodup ((ids_nodup rise).filter _) gn).2 fun y=>?_);rw[List.mem_filter,hasB_mem];refine⟨fun h=>h.2,fun h=>⟨?_,h⟩⟩;unfold goneL at h;rw[sortL_mem,List.mem_map]at h;obtain⟨i,hi,e⟩:=h;exact ids_mem.2 ⟨i,((mem_pre rise h0 ul).1 hi).1,e⟩
theorem obj_some{ta oa:Option Addr}{ca co:Nat}{lt:List ThrV}{lo:List ObjV}(ok:okL lt lo=true)(x:Int):(objL (kOf ta ca oa co lt lo) x).isSome=true↔x∈idsL lo:=by
 have e:kerOk (kOf ta ca oa co lt lo)=true:=ok;unfold objL;rw[if_pos e,ids_mem];constructor
 ·intro h;obtain⟨j,hj⟩:=Option.isSome_iff_exists.1 h;exact⟨j,findI_some hj⟩
 ·rintro⟨j,hj,ej⟩;cases h:findI (fun i=>((kOf ta ca oa co lt lo).O i).id) (kOf ta ca oa co lt lo).on x with
  |some _=>rfl
  |none=>exact absurd ej (findI_none h j hj)
theorem OwnOb.store{w:World}{B q co n:Nat}{l:List ObjV}(h:w.ownsRow B 47 10 (.slice (some ⟨q,0,none⟩) n co) n (cells10 l)){i:Nat}(hi:i<l.length)(v:ObjV):
 ((((((((((w.setCell ⟨q,i*10,none⟩ (.int .i64 v.id)).setCell ⟨q,i*10+1,none⟩ (.int .i64 v.kind)).setCell ⟨q,i*10+2,none⟩ (.int .i64 v.up)).setCell ⟨q,i*10+3,none⟩ (.int .i64 v.b1)).setCell ⟨q,i*10+4,none⟩ (.slice v.c1.a v.c1.n v.c1.k)).setCell ⟨q,i*10+5,none⟩ (.string v.data)).setCell ⟨q,i*10+6,none⟩ (.slice v.items.a v.items.n v.items.k)).setCell ⟨q,i*10+7,none⟩ (.slice v.own.a v.own.n v.own.k)).setCell ⟨q,i*10+8,none⟩ (.int .i64 v.b2)).setCell ⟨q,i*10+9,none⟩ (.slice v.c2.a v.c2.n v.c2.k)).ownsRow B 47 10 (.slice (some ⟨q,0,none⟩) n co) n (cells10 (l.set i v)):=by
 obtain⟨o,ho⟩:∃o,o=l[i]:=⟨_,rfl⟩;have e0:=flat_set (f:=ObjV.cs) ObjV.cs_len (l:=l) (t:=i) (x:=(⟨v.id,o.kind,o.up,o.b1,o.c1,o.data,o.items,o.own,o.b2,o.c2⟩:ObjV)) (u:= .int .i64 v.id) (i:=0) (by exact hi) (by omega) (by rw[←ho];rfl);have h0:=(World.ownsRow.stored h (i*10+0) (.int .i64 v.id)).1;rw[show cells10 l=((l).map ObjV.cs).flatten from rfl,e0]at h0;have e1:=flat_set (f:=ObjV.cs) ObjV.cs_len (l:=(l.set i ⟨v.id,o.kind,o.up,o.b1,o.c1,o.data,o.items,o.own,o.b2,o.c2⟩)) (t:=i) (x:=(⟨v.id,v.kind,o.up,o.b1,o.c1,o.data,o.items,o.own,o.b2,o.c2⟩:ObjV)) (u:= .int .i64 v.kind) (i:=1) (by rw[List.length_set];exact hi) (by omega) (by simp only[List.getElem_set_self];rfl);rw[List.set_set]at e1;have h1:=(World.ownsRow.stored h0 (i*10+1) (.int .i64 v.kind)).1;rw[e1]at h1;have e2:=flat_set (f:=ObjV.cs) ObjV.cs_len (l:=(l.set i ⟨v.id,v.kind,o.up,o.b1,o.c1,o.data,o.items,o.own,o.b2,o.c2⟩)) (t:=i) (x:=(⟨v.id,v.kind,v.up,o.b1,o.c1,o.data,o.items,o.own,o.b2,o.c2⟩:ObjV)) (u:= .int .i64 v.up) (i:=2) (by rw[List.length_set];exact hi) (by omega) (by simp only[List.getElem_set_self];rfl);rw[List.set_set]at e2;have h2:=(World.ownsRow.stored h1 (i*10+2) (.int .i64 v.up)).1;rw[e2]at h2;have e3:=flat_set (f:=ObjV.cs) ObjV.cs_len (l:=(l.set i ⟨v.id,v.kind,v.up,o.b1,o.c1,o.data,o.items,o.own,o.b2,o.c2⟩)) (t:=i) (x:=(⟨v.id,v.kind,v.up,v.b1,o.c1,o.data,o.items,o.own,o.b2,o.c2⟩:ObjV)) (u:= .int .i64 v.b1) (i:=3) (by rw[List.length_set];exact hi) (by omega) (by simp only[List.getElem_set_self];rfl);rw[List.set_set]at e3;have h3:=(World.ownsRow.stored h2 (i*10+3) (.int .i64 v.b1)).1;rw[e3]at h3;have e4:=flat_set (f:=ObjV.cs) ObjV.cs_len (l:=(l.set i ⟨v.id,v.kind,v.up,v.b1,o.c1,o.data,o.items,o.own,o.b2,o.c2⟩)) (t:=i) (x:=(⟨v.id,v.kind,v.up,v.b1,v.c1,o.data,o.items,o.own,o.b2,o.c2⟩:ObjV)) (u:= .slice v.c1.a v.c1.n v.c1.k) (i:=4) (by rw[List.length_set];exact hi) (by omega) (by simp only[List.getElem_set_self];rfl);rw[List.set_set]at e4;have h4:=(World.ownsRow.stored h3 (i*10+4) (.slice v.c1.a v.c1.n v.c1.k)).1;rw[e4]at h4;have e5:=flat_set (f:=ObjV.cs) ObjV.cs_len (l:=(l.set i ⟨v.id,v.kind,v.up,v.b1,v.c1,o.data,o.items,o.own,o.b2,o.c2⟩)) (t:=i) (x:=(⟨v.id,v.kind,v.up,v.b1,v.c1,v.data,o.items,o.own,o.b2,o.c2⟩:ObjV)) (u:= .string v.data) (i:=5) (by rw[List.length_set];exact hi) (by omega) (by simp only[List.getElem_set_self];rfl);rw[List.set_set]at e5;have h5:=(World.ownsRow.stored h4 (i*10+5) (.string v.data)).1;rw[e5]at h5;have e6:=flat_set (f:=ObjV.cs) ObjV.cs_len (l:=(l.set i ⟨v.id,v.kind,v.up,v.b1,v.c1,v.data,o.items,o.own,o.b2,o.c2⟩)) (t:=i) (x:=(⟨v.id,v.kind,v.up,v.b1,v.c1,v.data,v.items,o.own,o.b2,o.c2⟩:ObjV)) (u:= .slice v.items.a v.items.n v.items.k) (i:=6) (by rw[List.length_set];exact hi) (by omega) (by simp only[List.getElem_set_self];rfl);rw[List.set_set]at e6;have h6:=(World.ownsRow.stored h5 (i*10+6) (.slice v.items.a v.items.n v.items.k)).1;rw[e6]at h6;have e7:=flat_set (f:=ObjV.cs) ObjV.cs_len (l:=(l.set i ⟨v.id,v.kind,v.up,v.b1,v.c1,v.data,v.items,o.own,o.b2,o.c2⟩)) (t:=i) (x:=(⟨v.id,v.kind,v.up,v.b1,v.c1,v.data,v.items,v.own,o.b2,o.c2⟩:ObjV)) (u:= .slice v.own.a v.own.n v.own.k) (i:=7) (by rw[List.length_set];exact hi) (by omega) (by simp only[List.getElem_set_self];rfl);rw[List.set_set]at e7;have h7:=(World.ownsRow.stored h6 (i*10+7) (.slice v.own.a v.own.n v.own.k)).1;rw[e7]at h7;have e8:=flat_set (f:=ObjV.cs) ObjV.cs_len (l:=(l.set i ⟨v.id,v.kind,v.up,v.b1,v.c1,v.data,v.items,v.own,o.b2,o.c2⟩)) (t:=i) (x:=(⟨v.id,v.kind,v.up,v.b1,v.c1,v.data,v.items,v.own,v.b2,o.c2⟩:ObjV)) (u:= .int .i64 v.b2) (i:=8) (by rw[List.length_set];exact hi) (by omega) (by simp only[List.getElem_set_self];rfl);rw[List.set_set]at e8;have h8:=(World.ownsRow.stored h7 (i*10+8) (.int .i64 v.b2)).1;rw[e8]at h8;have e9:=flat_set (f:=ObjV.cs) ObjV.cs_len (l:=(l.set i ⟨v.id,v.kind,v.up,v.b1,v.c1,v.data,v.items,v.own,v.b2,o.c2⟩)) (t:=i) (x:=(⟨v.id,v.kind,v.up,v.b1,v.c1,v.data,v.items,v.own,v.b2,v.c2⟩:ObjV)) (u:= .slice v.c2.a v.c2.n v.c2.k) (i:=9) (by rw[List.length_set];exact hi) (by omega) (by simp only[List.getElem_set_self];rfl);rw[List.set_set]at e9;have h9:=(World.ownsRow.stored h8 (i*10+9) (.slice v.c2.a v.c2.n v.c2.k)).1;rw[e9]at h9;exact h9
theorem OwnOb.cells{w:World}{B q co:Nat}{l:List ObjV}(h:OwnOb w B (.slice (some ⟨q,0,none⟩) l.length co) l){i:Nat}(hi:i<l.length):Cells10 w q (i*10) l[i]∧q<w.heap.size∧B≤q∧(∃cur,Blk w q (.cells cur 47)):=by
 obtain⟨b,off,e,hlt,hc⟩:=LiesC.own h (by omega);cases e;obtain⟨c0,c1,c2,c3,c4,c5,c6,c7,c8,c9⟩:=cells10_get hi;have g:∀(j:Nat) (u:Value),(cells10 l)[j]? =some u→w.cell? ⟨q,j,none⟩=some u:=fun j u hu=>by
  have:=hc j u hu;rw[Nat.zero_add]at this;exact this
 refine⟨⟨g _ _ c0,g _ _ c1,g _ _ c2,g _ _ c3,g _ _ c4,g _ _ c5,g _ _ c6,g _ _ c7,g _ _ c8,g _ _ c9⟩,hlt,?_⟩;rcases h.2 with⟨hv,_⟩|⟨g',cap,cur,hv,hB,hgg,_⟩
 ·cases hv
 ·cases hv;exact⟨hB,cur,hgg⟩
theorem own_sets{B e sz q n co:Nat}:∀(vs:List Value) (o:Nat) (w:World) (xs:List Value),w.ownsRow B e sz (.slice (some ⟨q,0,none⟩) n co) n xs→∃xs',(w.setCells q o vs).ownsRow B e sz (.slice (some ⟨q,0,none⟩) n co) n xs'∧xs'.take o=xs.take o∧w.grownBy (w.setCells q o vs) (some q)
 |[],o,w,xs,h=>⟨xs,h,rfl,⟨rfl,rfl,rfl,Nat.le_refl _,fun _ _ _=>rfl⟩⟩
 |v::r,o,w,xs,h=>by
  obtain⟨h1,g1⟩:=World.ownsRow.stored h o v;obtain⟨xs',h2,h3,g2⟩:=own_sets r (o+1) _ _ h1;refine⟨xs',h2,?_,⟨g2.os.trans g1.os,g2.tape.trans g1.tape,g2.output.trans g1.output,Nat.le_trans g1.size g2.size,fun k hk hne=>(g2.block k (Nat.lt_of_lt_of_le hk g1.size) hne).trans (g1.block k hk hne)⟩⟩;have:=congrArg (List.take o) h3;rw[List.take_take,List.take_take,Nat.min_eq_left (by omega)]at this;rw[this,List.take_set_of_le (by omega)]
theorem own_cut{w:World}{B e sz q n co m:Nat}{xs ys:List Value}(h:w.ownsRow B e sz (.slice (some ⟨q,0,none⟩) n co) n xs)(hm:m≤n)(hy:ys=xs.take (m*sz)):w.ownsRow B e sz (.slice (some ⟨q,0,none⟩) m co) m ys:=by
 rcases h.2 with⟨hv,_⟩|⟨g',cap,cur,hv,hB,hgg,h1,h2,h3,h4⟩
 ·cases hv
 ·cases hv;have hmn:m*sz≤n*sz:=Nat.mul_le_mul_right _ hm;refine⟨by rw[hy,List.length_take,h.1];omega,.inr ⟨_,_,cur,rfl,hB,hgg,by omega,h2,h3,?_⟩⟩;rw[hy,←h4,List.take_take,Nat.min_eq_left hmn]
theorem run_clear10(w:World)(b o n c:Nat)(hn:0<n)(hc:∀j,j<n*10→(w.cell? ⟨b,o+j,none⟩).isSome=true)(hf:∀j,j<n*10→w.frozen? ⟨b,o+j,none⟩=false):
 ∃vs,∀ty,(Builtin.clear_ #[25] ty #[.slice (some ⟨b,o,none⟩) n c]).run Tryz.prog w= .ok (.tuple #[]) (w.setCells b o vs):=by
 have n1:Na #[.int .i64 0,.int .i64 0,.int .i64 0,.int .i64 0,.slice none 0 0,.string ⟨#[]⟩,.slice none 0 0,.slice none 0 0,.int .i64 0,.slice none 0 0]:=⟨⟩;have hl:(Builtin.zeroCells n1 n).toList.length=n*10:=by
  simp[Builtin.zeroCells]
 have h1:∀v∈(Builtin.zeroCells n1 n).toList,v.oneCell'=true:=fun v hv=>by
  simp only[Builtin.zeroCells,Array.toList_map,List.mem_map]at hv;obtain⟨i,_,rfl⟩:=hv;have hi:i%10<10:=Nat.mod_lt _ (by decide);show(#[Value.int .i64 0,.int .i64 0,.int .i64 0,.int .i64 0,.slice none 0 0,.string ⟨#[]⟩,.slice none 0 0,.slice none 0 0,.int .i64 0,.slice none 0 0][i%10]!).oneCell'=true;generalize i%10=k at *;rcases k with _|_|_|_|_|_|_|_|_|_|k;all_goals first|rfl|omega
 have hst:=run_storeCells_cells (P:=Tryz.prog) b o _ 0 w (by rw[hl];simpa using hc) (by rw[hl];simpa using hf) h1;rw[Nat.add_zero]at hst;have hu:∀w,(underlying 25).run Tryz.prog w= .ok (.slice 47) w:=fun w=>by simp[underlying,go_sem,Tryz.underlying25]
 clear hl h1 hc hf;obtain⟨m,rfl⟩:∃m,n=m+1:=⟨n-1,by omega⟩;refine⟨(Builtin.zeroCells n1 (m+1)).toList,fun ty=>?_⟩;simp[Builtin.clear_,go_sem,hu,Tryz.zeroValue47,Value.cells,hst]
theorem gone_any(o:ObjV)(vb ga:Nat)(G:IntL)(w:World)(hv:w.cell? ⟨vb,ga,none⟩=some (.slice G.a G.n G.k))(hl:vb<w.heap.size)(hG:G.at w):
 Calls Tryz.prog 147 #[.agg #[.int .i64 o.id,.int .i64 o.kind,.int .i64 o.up,.int .i64 o.b1,.slice o.c1.a o.c1.n o.c1.k,.string o.data,.slice o.items.a o.items.n o.items.k,.slice o.own.a o.own.n o.own.k,.int .i64 o.b2,.slice o.c2.a o.c2.n o.c2.k],.pointer (some ⟨vb,ga,none⟩)] w fun e w'=>e= .returned (.bool (hasB G.n G.h o.id))∧Below w.heap.size w w':=by
 have b0:Below w.heap.size w (w.alloc (.cells #[.int .i64 o.id,.int .i64 o.kind,.int .i64 o.up,.int .i64 o.b1,.slice o.c1.a o.c1.n o.c1.k,.string o.data,.slice o.items.a o.items.n o.items.k,.slice o.own.a o.own.n o.own.k,.int .i64 o.b2,.slice o.c2.a o.c2.n o.c2.k] 47)):=(Below.refl _ w).alloc (Nat.le_refl _) _;have v0:=(b0.cell (p:=⟨vb,ga,none⟩) hl).trans hv;have CT:=hid (contains_any G.a G.n G.k G.h o.id _ hG.1 (hG.below b0).2);have B0:=hid b0;clear b0 hG hv;go_enter Tryz.func147,Tryz.ntmps147
 go_wp2_with fail
 refine CT.out.mono ?_;rintro e w1 ⟨rfl,rfl⟩;go_wp2;go_ret;exact⟨rfl,B0.out⟩
theorem indexF_any(B q co vb:Nat)(l:List ObjV)(G:IntL)(w:World)(h:OwnOb w B (.slice (some ⟨q,0,none⟩) l.length co) l)(hn:l.length≤1048576)(hv:w.cell? ⟨vb,0,none⟩=some (.slice G.a G.n G.k))(hl:vb<w.heap.size)(hG:G.at w):
 Calls Tryz.prog 175 #[.slice (some ⟨q,0,none⟩) l.length co,.func (.func 147) #[] #[.pointer (some ⟨vb,0,none⟩)]] w fun e w'=>Below w.heap.size w w'∧((e= .returned (.int .i64 (-1))∧∀x∈l,hasB G.n G.h x.id=false)∨∃i,i<l.length∧e= .returned (.int .i64 i)∧(∀x∈l.take i,hasB G.n G.h x.id=false)∧hasB G.n G.h (atOwnOb l i).id=true):=by
 have HO:=hid h;have HG:=hid hG;have HV:=hid hv;clear h hG hv;go_enter Tryz.func175,Tryz.ntmps175
 go_wp2;go_loopw [8] (fun i wr=>∃k:Nat,k≤l.length∧i= .int .i64 k∧Hid (Below w.heap.size w wr)∧Hid (∀x∈l.take k,hasB G.n G.h x.id=false)) (fun i _=>l.length-(intOf i).toNat)
 case atStart=>exact⟨0,Nat.zero_le _,rfl,hid (Below.refl _ _),hid (fun x hx=>by simp at hx)⟩
 case round=>
  obtain⟨k,hk,rfl,BW,NG⟩:=hrel;by_cases hlt:k<l.length
  ·have i1:(k:Int)<(l.length:Int):=(by omega);have i0:(0:Int)≤(k:Int):=(by omega);obtain⟨CC,ql,_⟩:=OwnOb.cells (OwnOb.below HO.out BW.out) hlt;have q0:wr.cell? ⟨q,k*10,none⟩=some (.int .i64 l[k].id):=CC.c0;have q1:wr.cell? ⟨q,k*10+1,none⟩=some (.int .i64 l[k].kind):=CC.c1;have q2:wr.cell? ⟨q,k*10+2,none⟩=some (.int .i64 l[k].up):=CC.c2;have q3:wr.cell? ⟨q,k*10+3,none⟩=some (.int .i64 l[k].b1):=CC.c3;have q4:wr.cell? ⟨q,k*10+4,none⟩=some (.slice l[k].c1.a l[k].c1.n l[k].c1.k):=CC.c4;have q5:wr.cell? ⟨q,k*10+5,none⟩=some (.string l[k].data):=CC.c5;have q6:wr.cell? ⟨q,k*10+6,none⟩=some (.slice l[k].items.a l[k].items.n l[k].items.k):=CC.c6;have q7:wr.cell? ⟨q,k*10+7,none⟩=some (.slice l[k].own.a l[k].own.n l[k].own.k):=CC.c7;have q8:wr.cell? ⟨q,k*10+8,none⟩=some (.int .i64 l[k].b2):=CC.c8;have q9:wr.cell? ⟨q,k*10+9,none⟩=some (.slice l[k].c2.a l[k].c2.n l[k].c2.k):=CC.c9;have GA:=hid (gone_any l[k] vb 0 G wr ((BW.out.cell (p:=⟨vb,0,none⟩) hl).trans HV.out) (Nat.lt_of_lt_of_le hl BW.out.size) (HG.out.below BW.out));clear CC;go_wp2_with fail
   refine GA.out.mono ?_;rintro e w1 ⟨rfl,b1⟩;have B1:=hid (then_ BW.out b1);clear b1 q0 q1 q2 q3 q4 q5 q6 q7 q8 q9 GA;cases hg:hasB G.n G.h l[k].id with
   |true=>
    go_wp2;go_ret;refine⟨B1.out,.inr ⟨k,hlt,rfl,NG.out,?_⟩⟩;rw[atOwnOb_get hlt];exact hg
   |false=>
    go_wp2;go_roundw;case rel=>
     refine⟨k+1,by omega,by go_num,B1,hid (fun x hx=>?_)⟩;rw[List.take_add_one,List.getElem?_eq_getElem hlt]at hx;rcases List.mem_append.1 hx with hx|hx
     ·exact NG.out x hx
     ·simp at hx;rw[hx];exact hg
    case measure=>simp[intOf];omega
  ·have i1:¬(k:Int)<(l.length:Int):=(by omega);go_wp2;go_ret;refine⟨BW.out,.inl ⟨rfl,fun x hx=>NG.out x ?_⟩⟩;rw[List.take_of_length_le (by omega)];exact hx
def keepL(G:IntL)(l:List ObjV):List ObjV:=l.filter (fun o=> !hasB G.n G.h o.id)
theorem keepL_none{G:IntL}{l:List ObjV}(h:∀x∈l,hasB G.n G.h x.id=false):keepL G l=l:=List.filter_eq_self.2 (fun x hx=>by rw[h x hx];rfl)
theorem keepL_more{G:IntL}{l:List ObjV}{k:Nat}(hk:k<l.length):keepL G (l.take (k+1))=keepL G (l.take k)++(if hasB G.n G.h l[k].id=true then[]else[l[k]]):=by
 unfold keepL;rw[List.take_add_one,List.getElem?_eq_getElem hk,List.filter_append];cases hh:hasB G.n G.h l[k].id<;>simp[hh]
theorem cells10_take(L:List ObjV)(p:Nat)(hp:p≤L.length):(cells10 L).take (p*10)=cells10 (L.take p):=by
 have e:cells10 L=cells10 (L.take p)++cells10 (L.drop p):=by rw[←cells10_append,List.take_append_drop]
 have hl:(cells10 (L.take p)).length=p*10:=by rw[cells10_len,List.length_take,Nat.min_eq_left hp]
 rw[e,List.take_append_of_le_length (by omega),List.take_of_length_le (by omega)]
theorem grown_then{w w1 w2:World}{row:Option Nat}(h:w.grownBy w1 row)(hb:Below w1.heap.size w1 w2):w.grownBy w2 row:=
 ⟨hb.os.trans h.os,hb.tape.trans h.tape,hb.output.trans h.output,Nat.le_trans h.size hb.size,fun k hk hne=>(hb.block k (Nat.lt_of_lt_of_le hk h.size)).trans (h.block k hk hne)⟩
theorem grown_set1{w w1:World}{q:Nat}(h:w.grownBy w1 (some q))(i:Nat)(v:Value):w.grownBy (w1.setCell ⟨q,i,none⟩ v) (some q):=
 ⟨h.os,h.tape,h.output,by simpa[World.setCell]using h.size,fun k hk hne=>(Below.heap_setCell _ _ _ _ (fun(e:k=q)=>hne (by rw[e]))).trans (h.block k hk hne)⟩
structure DelI(B q co:Nat)(l:List ObjV)(G:IntL)(w wr:World)(p k:Nat)(L:List ObjV):Prop where
 pk:p<k
 kn:k≤l.length
 len:L.length=l.length
 own:OwnOb wr B (.slice (some ⟨q,0,none⟩) L.length co) L
 fst:L.take p=keepL G (l.take k)
 rst:L.drop k=l.drop k
 gr:w.grownBy wr (some q)
theorem DelI.at{B q co:Nat}{l L:List ObjV}{G:IntL}{w wr:World}{p k:Nat}(h:DelI B q co l G w wr p k L)(hk:k<l.length):L[k]'(by rw[h.len];exact hk)=l[k]:=by
 have h1:=congrArg (fun x=>x[0]?) h.rst;simp only[List.getElem?_drop,Nat.add_zero]at h1;rw[List.getElem?_eq_getElem (by rw[h.len];exact hk),List.getElem?_eq_getElem hk]at h1;exact Option.some.inj h1
theorem DelI.skip{B q co:Nat}{l L:List ObjV}{G:IntL}{w wr w':World}{p k:Nat}(h:DelI B q co l G w wr p k L)(hk:k<l.length)(hg:hasB G.n G.h l[k].id=true)(hb:Below wr.heap.size wr w'):DelI B q co l G w w' p (k+1) L:=
 ⟨by have:=h.pk;omega,hk,h.len,h.own.below hb,by rw[keepL_more hk,hg,h.fst];simp,by rw[←List.drop_drop,h.rst,List.drop_drop],grown_then h.gr hb⟩
theorem DelI.keep{B q co:Nat}{l L:List ObjV}{G:IntL}{w wr w2:World}{p k:Nat}(h:DelI B q co l G w wr p k L)(hk:k<l.length)(hg:hasB G.n G.h l[k].id=false)(ho:w2.ownsRow B 47 10 (.slice (some ⟨q,0,none⟩) L.length co) L.length (cells10 (L.set p l[k])))(hgr:w.grownBy w2 (some q)):DelI B q co l G w w2 (p+1) (k+1) (L.set p l[k]):=
 ⟨by have:=h.pk;omega,hk,by rw[List.length_set];exact h.len,by unfold OwnOb;rw[List.length_set];exact ho,by
   have pl:p<L.length:=(by have:=h.pk;rw[h.len];omega);rw[keepL_more hk,hg,List.take_add_one,List.take_set_of_le (Nat.le_refl _),h.fst];simp[pl],by rw[List.drop_set_of_lt (by have:=h.pk;omega),←List.drop_drop,h.rst,List.drop_drop],hgr⟩
theorem deleteF_any(B q co vb:Nat)(l:List ObjV)(G:IntL)(w:World)(h:OwnOb w B (.slice (some ⟨q,0,none⟩) l.length co) l)(hn:l.length≤1048576)(hv:w.cell? ⟨vb,0,none⟩=some (.slice G.a G.n G.k))(hl:vb<w.heap.size)(hvq:vb≠q)(hG:∀W,w.grownBy W (some q)→G.at W):
 Calls Tryz.prog 146 #[.slice (some ⟨q,0,none⟩) l.length co,.func (.func 147) #[] #[.pointer (some ⟨vb,0,none⟩)]] w fun e w'=>e= .returned (.slice (some ⟨q,0,none⟩) (keepL G l).length co)∧OwnOb w' B (.slice (some ⟨q,0,none⟩) (keepL G l).length co) (keepL G l)∧w.grownBy w' (some q):=by
 have g0:w.grownBy w (some q):=⟨rfl,rfl,rfl,Nat.le_refl _,fun _ _ _=>rfl⟩;have IXF:=hid (indexF_any B q co vb l G w h hn hv hl (hG w g0));have HO:=hid h;have HG:=hid hG;have HV:=hid hv;have cap:=(own_cap h).1;have caM:=(own_cap h).2;have G0:=hid g0;clear h hG hv g0;go_enter Tryz.func146,Tryz.ntmps146
 go_wp2_with fail
 refine IXF.out.mono ?_;rintro e w1 ⟨b1,hr⟩;have B1:=hid b1;clear IXF b1;rcases hr with⟨rfl,hall⟩|⟨i,hi,rfl,hno,hyes⟩
 ·have EK:Hid (keepL G l=l):=hid (keepL_none hall);clear hall;go_wp2;go_ret;rw[EK.out];exact⟨rfl,HO.out.below B1.out,grown_then G0.out B1.out⟩
 ·have i1:¬(i:Int)= -1:=by omega
  have i2:((i:Int)== -1)=false:=beq_eq_false_iff_ne.2 i1;have wr1:IntKind.i64.wrap ((i:Int)+1)=(i:Int)+1:=by rw[IntKind.wrap_i64];omega
  have ST:Hid (DelI B q co l G w w1 i (i+1) l):=hid ⟨Nat.lt_succ_self _,hi,rfl,HO.out.below B1.out,by
   rw[keepL_more hi,keepL_none hno];rw[atOwnOb_get hi]at hyes;rw[hyes];simp,rfl,grown_then G0.out B1.out⟩
  clear hno hyes;go_wp2;go_loopw [5,6] (fun a b wr=>∃(p k:Nat) (L:List ObjV),a= .int .i64 p∧b= .int .i64 k∧Hid (DelI B q co l G w wr p k L)) (fun _ b _=>l.length-(intOf b).toNat)
  case atStart=>exact⟨i,i+1,l,rfl,by first|rfl|go_num,ST⟩
  case round=>
   clear ST;obtain⟨p,k,L,rfl,rfl,DI⟩:=hrel;have pk:=DI.out.pk;have kn:=DI.out.kn;have len:=DI.out.len;by_cases hlt:k<l.length
   ·have j1:(k:Int)<(l.length:Int):=(by omega);have j0:(0:Int)≤(k:Int):=(by omega);have p0:(0:Int)≤(p:Int):=(by omega);have p1:(p:Int)<(l.length:Int):=(by omega);have hkL:k<L.length:=(by omega);have hpL:p<L.length:=(by omega);obtain⟨CC,ql,hBq,cur,hcur⟩:=OwnOb.cells DI.out.own hkL;have ek:=DI.out.at hlt;rw[ek]at CC;obtain⟨o,ho⟩:∃o,o=l[k]:=⟨_,rfl⟩;rw[←ho]at CC;have HK:=hid ho;have q0:wr.cell? ⟨q,k*10,none⟩=some (.int .i64 o.id):=CC.c0;have q1:wr.cell? ⟨q,k*10+1,none⟩=some (.int .i64 o.kind):=CC.c1;have q2:wr.cell? ⟨q,k*10+2,none⟩=some (.int .i64 o.up):=CC.c2;have q3:wr.cell? ⟨q,k*10+3,none⟩=some (.int .i64 o.b1):=CC.c3;have q4:wr.cell? ⟨q,k*10+4,none⟩=some (.slice o.c1.a o.c1.n o.c1.k):=CC.c4;have q5:wr.cell? ⟨q,k*10+5,none⟩=some (.string o.data):=CC.c5;have q6:wr.cell? ⟨q,k*10+6,none⟩=some (.slice o.items.a o.items.n o.items.k):=CC.c6;have q7:wr.cell? ⟨q,k*10+7,none⟩=some (.slice o.own.a o.own.n o.own.k):=CC.c7;have q8:wr.cell? ⟨q,k*10+8,none⟩=some (.int .i64 o.b2):=CC.c8;have q9:wr.cell? ⟨q,k*10+9,none⟩=some (.slice o.c2.a o.c2.n o.c2.k):=CC.c9;have n1:No (.cells #[.int .i64 o.id,.int .i64 o.kind,.int .i64 o.up,.int .i64 o.b1,.slice o.c1.a o.c1.n o.c1.k,.string o.data,.slice o.items.a o.items.n o.items.k,.slice o.own.a o.own.n o.own.k,.int .i64 o.b2,.slice o.c2.a o.c2.n o.c2.k] 47):=⟨⟩;have BA:Below wr.heap.size wr (wr.alloc n1):=(Below.refl _ wr).alloc (Nat.le_refl _) _;have gr:=grown_then DI.out.gr BA;have vc:(wr.alloc n1).cell? ⟨vb,0,none⟩=some (.slice G.a G.n G.k):=(World.cell?_of_block (a:=⟨vb,0,none⟩) (gr.block vb hl (fun e=>hvq (Option.some.inj e)))).trans HV.out;have GA:=hid (gone_any o vb 0 G _ vc (Nat.lt_of_lt_of_le hl gr.size) (HG.out _ gr));have BD:=hid BA;have AB:=hid (Blk.new wr n1);have OWA:=hid (DI.out.own.below BA);clear CC ek ho BA gr vc cur hcur;go_wp2_with fail
    refine GA.out.mono ?_;rintro e w2 ⟨rfl,b2⟩;have B2:=hid (then_ BD.out b2);have A2:=hid (AB.out.below b2);clear b2 q0 q1 q2 q3 q4 q5 q6 q7 q8 q9 GA;cases hg:hasB G.n G.h o.id with
    |true=>
     have DN:=hid (DI.out.skip hlt (by rw[←HK.out];exact hg) B2.out);clear hg;have wk1:IntKind.i64.wrap ((k:Int)+1)=(k:Int)+1:=(by rw[IntKind.wrap_i64];omega);go_wp2;go_roundw;case rel=>exact⟨p,k+1,L,rfl,by first|rfl|go_num,DN⟩
     case measure=>simp[intOf];omega
    |false=>
     obtain⟨x0,x1,x2,x3,x4,x5,x6,x7,x8,x9⟩:=A2.out.ten;have O2:=DI.out.own.below B2.out;obtain⟨CP,_,_,cur,hcur⟩:=OwnOb.cells O2 hpL;obtain⟨o2,ho2⟩:∃o2,o2=L[p]:=⟨_,rfl⟩;rw[←ho2]at CP;have y0:w2.cell? ⟨q,p*10,none⟩=some (.int .i64 o2.id):=CP.c0;have y1:w2.cell? ⟨q,p*10+1,none⟩=some (.int .i64 o2.kind):=CP.c1;have y2:w2.cell? ⟨q,p*10+2,none⟩=some (.int .i64 o2.up):=CP.c2;have y3:w2.cell? ⟨q,p*10+3,none⟩=some (.int .i64 o2.b1):=CP.c3;have y4:w2.cell? ⟨q,p*10+4,none⟩=some (.slice o2.c1.a o2.c1.n o2.c1.k):=CP.c4;have y5:w2.cell? ⟨q,p*10+5,none⟩=some (.string o2.data):=CP.c5;have y6:w2.cell? ⟨q,p*10+6,none⟩=some (.slice o2.items.a o2.items.n o2.items.k):=CP.c6;have y7:w2.cell? ⟨q,p*10+7,none⟩=some (.slice o2.own.a o2.own.n o2.own.k):=CP.c7;have y8:w2.cell? ⟨q,p*10+8,none⟩=some (.int .i64 o2.b2):=CP.c8;have y9:w2.cell? ⟨q,p*10+9,none⟩=some (.slice o2.c2.a o2.c2.n o2.c2.k):=CP.c9;have gf:=hcur.warm;have OS:=hid (OwnOb.store O2 hpL o);have GR:=hid (grown_then DI.out.gr B2.out);have HGF:=hid hg;clear CP ho2 hg O2;have wk1:IntKind.i64.wrap ((k:Int)+1)=(k:Int)+1:=(by rw[IntKind.wrap_i64];omega);have wp1:IntKind.i64.wrap ((p:Int)+1)=(p:Int)+1:=(by rw[IntKind.wrap_i64];omega);go_wp2;go_roundw;case rel=>
      refine⟨p+1,k+1,L.set p o,by first|rfl|go_num,by first|rfl|go_num,hid ?_⟩;have hk':=HK.out;subst hk';exact DI.out.keep hlt HGF.out OS.out (grown_set1 (grown_set1 (grown_set1 (grown_set1 (grown_set1 (grown_set1 (grown_set1 (grown_set1 (grown_set1 (grown_set1 GR.out _ _) _ _) _ _) _ _) _ _) _ _) _ _) _ _) _ _) _ _)
     case measure=>simp[intOf];omega
   ·have ek:k=l.length:=(by omega);have j1:¬(k:Int)<(l.length:Int):=(by omega);have pL:p≤L.length:=(by omega);have FS:=hid DI.out.fst;obtain⟨vs,hcl⟩:∃vs,∀ty,(Builtin.clear_ #[25] ty #[.slice (some ⟨q,p*10,none⟩) (l.length-p) (co-p)]).run Tryz.prog wr= .ok (.tuple #[]) (wr.setCells q (p*10) vs):=by
     obtain⟨b,off,e,hlt',hc⟩:=LiesC.own DI.out.own (by omega);cases e;have cc:∀j,j<(l.length-p)*10→(wr.cell? ⟨q,p*10+j,none⟩).isSome=true:=fun j hj=>by
      have hjl:p*10+j<(cells10 L).length:=(by rw[cells10_len,len];omega);have:=hc (p*10+j) _ (List.getElem?_eq_getElem hjl);rw[Nat.zero_add]at this;rw[this];rfl
     have ff:∀j,j<(l.length-p)*10→wr.frozen? ⟨q,p*10+j,none⟩=false:=fun j hj=>by
      obtain⟨_,_,_,cur,hcur⟩:=OwnOb.cells DI.out.own (i:=0) (by omega);exact hcur.warm _
     exact run_clear10 wr q (p*10) (l.length-p) (co-p) (by omega) cc ff
    obtain⟨xs',h2,h3,g2⟩:=own_sets vs (p*10) wr _ DI.out.own;have OW:Hid (OwnOb (wr.setCells q (p*10) vs) B (.slice (some ⟨q,0,none⟩) (keepL G l).length co) (keepL G l)):=hid (by
     have ef:L.take p=keepL G l:=(by rw[FS.out,ek,List.take_of_length_le (Nat.le_refl _)]);have el:(keepL G l).length=p:=(by rw[←ef,List.length_take,Nat.min_eq_left pL]);unfold OwnOb;rw[el];exact own_cut h2 pL (by rw[h3,cells10_take L p pL,ef]))
    have EL:Hid ((keepL G l).length=p):=hid (by
     have ef:L.take p=keepL G l:=(by rw[FS.out,ek,List.take_of_length_le (Nat.le_refl _)]);rw[←ef,List.length_take,Nat.min_eq_left pL])
    have GR:Hid (w.grownBy (wr.setCells q (p*10) vs) (some q)):=hid ⟨g2.os.trans DI.out.gr.os,g2.tape.trans DI.out.gr.tape,g2.output.trans DI.out.gr.output,Nat.le_trans DI.out.gr.size g2.size,fun k hk hne=>(g2.block k (Nat.lt_of_lt_of_le hk DI.out.gr.size) hne).trans (DI.out.gr.block k hk hne)⟩;have p1:(p:Int)≤(l.length:Int):=(by omega);have p2:p≤l.length:=(by omega);have p3:p≤co:=(by omega);have p4:(0:Int)≤(p:Int):=(by omega);have p5:¬co=p:=(by omega);have p6:(p:Int)≤(co:Int):=(by omega);have p7:(l.length:Int)≤(co:Int):=(by omega);clear h2 h3 g2;go_wp2;go_ret;rw[EL.out]at OW ⊢;exact⟨rfl,OW.out,GR.out⟩
end Go.Proofs.YtallmkehpfaaeaaGreatDoor
