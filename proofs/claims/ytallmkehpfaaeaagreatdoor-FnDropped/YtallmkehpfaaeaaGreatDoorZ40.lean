import Derived.Test.YtallmkehpfaaeaaGreatDoorZ33
import Derived.Test.YtallmkehpfaaeaaGreatDoorDWV
import Derived.Test.YtallmkehpfaaeaaGreatDoorZ22
import Derived.Test.YtallmkehpfaaeaaGreatDoorZ31
set_option maxRecDepth 100000
set_option maxHeartbeats 16000000
namespace Go.Proofs.YtallmkehpfaaeaaGreatDoor
open Go Go.RowKit Go.Deep Go.Extern.Stop Go.Stop Go.Extern
theorem p_valueOf(t:Addr)(w:World):(ReflectliteValue.unpack (.iface 68 (.pointer (some t)))).run Tryz.prog w
 = .ok (.agg #[.pointer (some ⟨18,68,none⟩),.pointer (some ⟨w.heap.size,0,none⟩),.int .u64 150]) (w.alloc (.cells #[.pointer (some t)] 68)):=by kernel_rfl
theorem p_type(a:Addr)(w:World):(ReflectliteValue.methodAny (ReflectliteValue.valueError "reflectlite.Value.Type" 0) (fun t _ _ _=>ReflectliteType.toType t) #[.agg #[.pointer (some ⟨18,68,none⟩),.pointer (some a),.int .u64 150]]).run Tryz.prog w
 = .ok (.iface 156 (.agg #[.pointer (some ⟨18,68,none⟩)])) w:=by kernel_rfl
theorem p_mKind(h:Value)(w:World):(Go.method 395 156 (.agg #[h]) "Kind").run Tryz.prog w= .ok (229,h) w:=by kernel_rfl
theorem p_kind65(w:World):((ReflectliteType.abiMethod fun t=>(fun a:Nat=>Value.int IntKind.u8 (a:Int))<$>Rtype.kind t) #[.pointer (some ⟨18,68,none⟩)]).run Tryz.prog w= .ok (.int .u8 22) w:=by kernel_rfl
theorem p_kind63(w:World):((ReflectliteType.abiMethod fun t=>(fun a:Nat=>Value.int IntKind.u8 (a:Int))<$>Rtype.kind t) #[.pointer (some ⟨18,66,none⟩)]).run Tryz.prog w= .ok (.int .u8 22) w:=by kernel_rfl
theorem p_method(z:Sem Value)(f:TypeId→Addr→Nat→Nat→Sem Value)(v:Value):
 ReflectliteValue.method z f #[v]=(do match ←ReflectliteValue.parts v with|none=>z|some (t,a,fl)=>f t a fl (fl%32)):=rfl
theorem p_parts65(a:Addr)(w:World):(ReflectliteValue.parts (.agg #[.pointer (some ⟨18,68,none⟩),.pointer (some a),.int .u64 150])).run Tryz.prog w= .ok (some (68,a,150)) w:=by kernel_rfl
theorem p_isNil(a p:Addr)(W:World)(ha:W.cell? a=some (.pointer (some p))):
 (ReflectliteValue.method (ReflectliteValue.valueError "reflectlite.Value.IsNil" 0) ReflectliteValue.isNil #[.agg #[.pointer (some ⟨18,68,none⟩),.pointer (some a),.int .u64 150]]).run Tryz.prog W= .ok (.bool false) W:=by
 rw[p_method];simp only[Sem.run_bind,p_parts65,Result.andThen];simp[ReflectliteValue.isNil,loadVar,isAgg,underlying,Tryz.underlying68,ha,Result.andThen]
theorem p_mElem(h:Value)(w:World):(Go.method 395 156 (.agg #[h]) "Elem").run Tryz.prog w= .ok (242,.agg #[h]) w:=by kernel_rfl
theorem p_mImpl(h:Value)(w:World):(Go.method 395 156 (.agg #[h]) "Implements").run Tryz.prog w= .ok (243,.agg #[h]) w:=by kernel_rfl
theorem p_mAss(h:Value)(w:World):(Go.method 395 156 (.agg #[h]) "AssignableTo").run Tryz.prog w= .ok (240,.agg #[h]) w:=by kernel_rfl
theorem p_elem(w:World):(ReflectliteType.method ReflectliteType.elem #[.agg #[.pointer (some ⟨18,68,none⟩)]]).run Tryz.prog w= .ok (.iface 156 (.agg #[.pointer (some ⟨18,66,none⟩)])) w:=by kernel_rfl
theorem p_impl(w:World):(ReflectliteType.relation "Implements" ReflectliteType.implements_ #[.agg #[.pointer (some ⟨18,66,none⟩)],.iface 156 (.agg #[.pointer (some ⟨18,62,none⟩)])]).run Tryz.prog w= .ok (.bool true) w:=by kernel_rfl
theorem p_typeOf(v:Value)(w:World):(ReflectliteType.typeOf #[.iface 66 v]).run Tryz.prog w= .ok (.iface 156 (.agg #[.pointer (some ⟨18,66,none⟩)])) w:=by kernel_rfl
theorem p_ass(w:World):(ReflectliteType.relation "AssignableTo" ReflectliteType.assignableTo #[.agg #[.pointer (some ⟨18,66,none⟩)],.iface 156 (.agg #[.pointer (some ⟨18,66,none⟩)])]).run Tryz.prog w= .ok (.bool true) w:=by kernel_rfl
theorem p_valueOf63(e:Addr)(w:World):(ReflectliteValue.unpack (.iface 66 (.pointer (some e)))).run Tryz.prog w
 = .ok (.agg #[.pointer (some ⟨18,66,none⟩),.pointer (some ⟨w.heap.size,0,none⟩),.int .u64 150]) (w.alloc (.cells #[.pointer (some e)] 66)):=by kernel_rfl
theorem p_elem?(w:World):(Rtype.elem? 68).run Tryz.prog w= .ok (some 66) w:=by kernel_rfl
theorem p_mk(p:Addr)(w:World):(ReflectliteValue.mk 66 p ReflectliteValue.flagAddr).run Tryz.prog w= .ok (.agg #[.pointer (some ⟨18,66,none⟩),.pointer (some p),.int .u64 406]) w:=by kernel_rfl
theorem p_elemV(a p:Addr)(W:World)(ha:W.cell? a=some (.pointer (some p))):
 (ReflectliteValue.method (ReflectliteValue.valueError "reflectlite.Value.Elem" 0) ReflectliteValue.elem #[.agg #[.pointer (some ⟨18,68,none⟩),.pointer (some a),.int .u64 150]]).run Tryz.prog W
   = .ok (.agg #[.pointer (some ⟨18,66,none⟩),.pointer (some p),.int .u64 406]) W:=by
 rw[p_method];simp only[Sem.run_bind,p_parts65,Result.andThen];simp[ReflectliteValue.elem,loadVar,isAgg,underlying,Tryz.underlying68,ha,Result.andThen,p_elem?,p_mk]
theorem p_parts63a(a:Addr)(w:World):(ReflectliteValue.parts (.agg #[.pointer (some ⟨18,66,none⟩),.pointer (some a),.int .u64 406])).run Tryz.prog w= .ok (some (66,a,406)) w:=by kernel_rfl
theorem p_parts63(a:Addr)(w:World):(ReflectliteValue.parts (.agg #[.pointer (some ⟨18,66,none⟩),.pointer (some a),.int .u64 150])).run Tryz.prog w= .ok (some (66,a,150)) w:=by kernel_rfl
theorem p_direct(w:World):(Rtype.directlyAssignable 66 66).run Tryz.prog w= .ok true w:=by kernel_rfl
theorem p_match(v x:Value)(h1:Value→Value→Sem Value)(h2:Array Value→Sem Value):ReflectliteValue.set.match_3 (fun _=>Sem Value) #[v,x] h1 h2=h1 v x:=rfl
theorem p_set(ta b e:Addr)(old:Value)(W:World)(hb:W.cell? b=some (.pointer (some e)))(ht:W.cell? ta=some old)(hf:W.frozen? ta=false):
 (ReflectliteValue.set #[.agg #[.pointer (some ⟨18,66,none⟩),.pointer (some ta),.int .u64 406],.agg #[.pointer (some ⟨18,66,none⟩),.pointer (some b),.int .u64 150]]).run Tryz.prog W
   = .ok (.tuple #[]) (W.setCell ta (.pointer (some e))):=by
 delta ReflectliteValue.set;rw[p_match];simp only[Sem.run_bind,p_parts63a,p_parts63,Result.andThen];simp[ReflectliteValue.flagAddr,loadVar,isAgg,underlying,Tryz.underlying66,hb,Result.andThen,p_direct,storeVar,Value.cells,storeCells,Addr.add];rw[run_store Tryz.prog W ta _ _ (by rfl)];simp[ht,hf]
def AsW(e t:Addr)(w:World):World:=((((w.alloc (.cells #[.pointer (some t)] 68)).alloc (.cells #[.pointer (some ⟨18,68,none⟩),.pointer (some ⟨w.heap.size,0,none⟩),.int .u64 150] 128)).alloc (.cells #[.pointer (some ⟨18,68,none⟩),.pointer (some ⟨w.heap.size,0,none⟩),.int .u64 150] 128)).alloc (.cells #[.pointer (some e)] 66)).setCell t (.pointer (some e))
theorem as_yes(e t:Addr)(old:Value)(w:World)(hg:w.cell? ⟨3,0,none⟩=some (.iface 156 (.agg #[.pointer (some ⟨18,62,none⟩)])))(ht0:w.cell? t=some old)(hf0:w.frozen? t=false):
 Calls Tryz.prog 33 #[.iface 66 (.pointer (some e)),.iface 68 (.pointer (some t))] w fun ev w'=>ev= .returned (.bool true)∧w'=AsW e t w:=by
 have h60:=@run_callFunc_extern Tryz.prog 73 _ (fun args=>ReflectliteValue.unpack (args.getD 0 (.tuple #[]))) Tryz.func73 (by kernel_rfl) (by kernel_rfl) (by kernel_rfl) (by kernel_rfl);have h61:=@run_callFunc_extern Tryz.prog 74 _ (ReflectliteValue.methodAny (ReflectliteValue.valueError "reflectlite.Value.Type" 0) (fun t _ _ _=>ReflectliteType.toType t)) Tryz.func74 (by kernel_rfl) (by kernel_rfl) (by kernel_rfl) (by kernel_rfl);have h62:=@run_callFunc_extern Tryz.prog 75 _ (ReflectliteValue.method (ReflectliteValue.valueError "reflectlite.Value.IsNil" 0) ReflectliteValue.isNil) Tryz.func75 (by kernel_rfl) (by kernel_rfl) (by kernel_rfl) (by kernel_rfl);have h243:=@run_callFunc_extern Tryz.prog 229 _ (ReflectliteType.abiMethod fun t=>do pure (.int .u8 (←Rtype.kind t))) Tryz.func229 (by kernel_rfl) (by kernel_rfl) (by kernel_rfl) (by kernel_rfl);have h254:=@run_callFunc_extern Tryz.prog 242 _ (ReflectliteType.method ReflectliteType.elem) Tryz.func242 (by kernel_rfl) (by kernel_rfl) (by kernel_rfl) (by kernel_rfl);have h255:=@run_callFunc_extern Tryz.prog 243 _ (ReflectliteType.relation "Implements" ReflectliteType.implements_) Tryz.func243 (by kernel_rfl) (by kernel_rfl) (by kernel_rfl) (by kernel_rfl);have h58:=@run_callFunc_extern Tryz.prog 71 _ ReflectliteType.typeOf Tryz.func71 (by kernel_rfl) (by kernel_rfl) (by kernel_rfl) (by kernel_rfl);have h252:=@run_callFunc_extern Tryz.prog 240 _ (ReflectliteType.relation "AssignableTo" ReflectliteType.assignableTo) Tryz.func240 (by kernel_rfl) (by kernel_rfl) (by kernel_rfl) (by kernel_rfl);have h116:=@run_callFunc_extern Tryz.prog 110 _ (ReflectliteValue.method (ReflectliteValue.valueError "reflectlite.Value.Elem" 0) ReflectliteValue.elem) Tryz.func110 (by kernel_rfl) (by kernel_rfl) (by kernel_rfl) (by kernel_rfl);have h117:=@run_callFunc_extern Tryz.prog 111 _ ReflectliteValue.set Tryz.func111 (by kernel_rfl) (by kernel_rfl) (by kernel_rfl) (by kernel_rfl);have l1:=p_typeOf;have l2:=p_mAss;have l3:=p_ass;have l4:=p_valueOf63;have l5:=p_valueOf;have l6:=p_type;have l7:=p_mKind;have l8:=p_mElem;have l9:=p_mImpl;have l10:=p_kind65;have l11:=p_kind63;have l12:=p_elem;have l13:=p_impl;have n1:No (.cells #[.pointer (some ⟨18,68,none⟩),.pointer (some ⟨w.heap.size,0,none⟩),.int .u64 150] 128):=⟨⟩;have n2:Nw ((w.alloc (.cells #[.pointer (some t)] 68)).alloc n1):=⟨⟩;have n8:=p_isNil ⟨w.heap.size,0,none⟩ t n2 (by simp);have hlt:3<w.heap.size:=by
  rcases Nat.lt_or_ge 3 w.heap.size with h|h
  ·exact h
  ·simp[World.cell?,Array.getElem?_eq_none h]at hg
 have hg2:(n2:World).cell? ⟨3,0,none⟩=some (.iface 156 (.agg #[.pointer (some ⟨18,62,none⟩)])):=by
  rw[World.cell?_alloc_lt _ _ ⟨3,0,none⟩ (by simp;omega),World.cell?_alloc_lt _ _ ⟨3,0,none⟩ hlt];exact hg
 have htl:t.block<w.heap.size:=by
  rcases Nat.lt_or_ge t.block w.heap.size with h|h
  ·exact h
  ·simp[World.cell?,Array.getElem?_eq_none h]at ht0
 have el:=p_elemV ⟨w.heap.size,0,none⟩ t ((n2:World).alloc n1) (by rw[World.cell?_alloc_lt _ _ ⟨w.heap.size,0,none⟩ (by simp;omega)];simp);have st:=p_set t ⟨w.heap.size+1+1+1,0,none⟩ e old (((n2:World).alloc n1).alloc (.cells #[.pointer (some e)] 66))
  (by rw[World.cell?_alloc_at _ _ _ _ (by simp)];rfl)
  (by rw[World.cell?_alloc_lt _ _ t (by simp;omega),World.cell?_alloc_lt _ _ t (by simp;omega),World.cell?_alloc_lt _ _ t (by simp;omega),World.cell?_alloc_lt _ _ t htl];exact ht0)
  (by rw[World.frozen?_alloc_old _ _ t (by simp;omega),World.frozen?_alloc_old _ _ t (by simp;omega),World.frozen?_alloc_old _ _ t (by simp;omega),World.frozen?_alloc_old _ _ t (Nat.ne_of_lt htl)];exact hf0)
 unfold AsW;go_enter Tryz.func33,Tryz.ntmps33
 go_wp2;refine wp_loop_rounds 1 ?_;rw[rounds_succ];go_wp2;go_ret;exact⟨rfl,rfl⟩
open Go.Maps Go.BigFrame Go.Shelf
def ErrB(w:World)(E:Nat→Addr):Prop:=(∀i,i<14→i≠3→i≠0→E i≠E 0)∧(∀i,i<14→i≠3→∃ca ta,w.heap[(E i).block]? =some (.cells ca ta (0,0)))∧w.cell? ⟨3,0,none⟩=some (.iface 156 (.agg #[.pointer (some ⟨18,62,none⟩)]))∧17<w.heap.size
theorem ErrB.below{w w':World}{E:Nat→Addr}(h:ErrB w E)(hb:Below w.heap.size w w'):ErrB w' E:=by
 refine⟨h.1,fun i h1 h2=>?_,?_,Nat.lt_of_lt_of_le h.2.2.2 hb.size⟩
 ·obtain⟨ca,ta,hc⟩:=h.2.1 i h1 h2;exact⟨ca,ta,(hb.block _ (Array.getElem?_eq_some_iff.1 hc).1).trans hc⟩
 ·exact(hb.cell (p:=⟨3,0,none⟩) (by have:=h.2.2.2;show 3<_;omega)).trans h.2.2.1
theorem as_grown(e:Addr)(tb:Nat)(w:World):w.grownBy (AsW e ⟨tb,0,none⟩ w) (some tb):=by
 unfold AsW;refine grown_set1 (grown_then ⟨rfl,rfl,rfl,Nat.le_refl _,fun _ _ _=>rfl⟩ ?_) _ _;exact((((Below.refl _ w).alloc (Nat.le_refl _) _).alloc (by simp) _).alloc (by simp;omega) _).alloc (by simp;omega) _
theorem as_blk{e:Addr}{tb:Nat}{w:World}(h:Blk w tb (.cells #[.pointer none] 66)):Blk (AsW e ⟨tb,0,none⟩ w) tb (.cells #[.pointer (some e)] 66):=by
 unfold AsW;exact((((h.alloc _).alloc _).alloc _).alloc _).setAt (i:=0) _
theorem Blk.c1{W:World}{P t:Nat}{x:Value}(h:Blk W P (.cells #[x] t)):W.cell? ⟨P,0,none⟩=some x:=by
 unfold Blk at h;simp[World.cell?,h]
def SameT(l l2:List ThrV):Prop:=l2.length=l.length∧∀j,j<l.length→(atOwnT l j).same (atOwnT l2 j)
theorem SameT.refl(l:List ThrV):SameT l l:=⟨rfl,fun _ _=>thr_refl _⟩
def DoneA(k:KerV)(s:StepV)(w:World)(e:Ending)(w':World):Prop:=
 Below w.heap.size w w'∧∃(kv:Value) (c:Int) (tx:ByteArray),e= .returned (.tuple #[kv,.int .i64 c,.string tx])∧
 ((kerOk k=false∧kv= .agg #[.slice none 0 0,.slice none 0 0]∧c=1∧tx=⟨#[]⟩)∨
  (kerOk k=true∧∃(lt:List ThrV) (lo:List ObjV) (lt' lt2:List ThrV) (lo' lo2:List ObjV) (ta oa:Option Addr) (ca co:Nat),k.same (kOf none 0 none 0 lt lo)∧kv= .agg #[.slice ta lt'.length ca,.slice oa lo'.length co]∧KStF w' w.heap.size (.slice ta lt'.length ca) (.slice oa lo'.length co) lt' lo'∧Apart lt' lo'∧SameT lt' lt2∧SameO lo' lo2∧DoneP lt lo s c tx lt2 lo2))
theorem Done_results(tmps:Array Value)(W:World)(P:Nat)(x y v5 v6:Value)(h:Blk W P (.cells #[x,y] 27))(h4:tmps[4]? =some (.pointer (some ⟨P,0,none⟩)))(h5:tmps[5]? =some v5)(h6:tmps[6]? =some v6):
 (results Tryz.f12 tmps).run Tryz.prog W= .ok (.tuple #[.agg #[x,y],v5,v6]) W:=by
 obtain⟨z0,z1⟩:=h.two;simp[results,Tryz.results12,go_sem,h4,h5,h6,z0,z1]
theorem ker_two{k:KerV}{lt lt2:List ThrV}{lo lo2:List ObjV}{ta oa:Option Addr}{ca co:Nat}(h:k.same (kOf ta ca oa co lt lo))(h2:k.same (kOf none 0 none 0 lt2 lo2)):SameT lt lt2∧SameO lo lo2:=by
 refine⟨⟨h2.1.trans h.1.symm,fun j hj=>?_⟩,h2.2.2.1.trans h.2.2.1.symm,fun j hj=>?_⟩
 ·have hj':j<k.tn:=by have e:lt.length=k.tn:=h.1;omega
  have a:(k.T j).same (atOwnT lt j):=h.2.1 j hj';have b:(k.T j).same (atOwnT lt2 j):=h2.2.1 j hj';obtain⟨a1,a2,a3,a4,a5,a6,a7⟩:=a;obtain⟨b1,b2,b3,b4,b5,b6,b7⟩:=b;exact⟨b1.trans a1.symm,b2.trans a2.symm,⟨b3.1.trans a3.1.symm,b3.2.1.trans a3.2.1.symm,b3.2.2.trans a3.2.2.symm⟩,b4.trans a4.symm,⟨b5.1.trans a5.1.symm,b5.2.1.trans a5.2.1.symm,b5.2.2.trans a5.2.2.symm⟩,⟨b6.1.trans a6.1.symm,b6.2.trans a6.2.symm⟩,b7.trans a7.symm⟩
 ·have hj':j<k.on:=by have e:lo.length=k.on:=h.2.2.1;omega
  have a:(k.O j).same (atOwnOb lo j):=h.2.2.2 j hj';have b:(k.O j).same (atOwnOb lo2 j):=h2.2.2.2 j hj';obtain⟨a1,a2,a3,a4,a5,a6,a7,a8,a9,a10⟩:=a;obtain⟨b1,b2,b3,b4,b5,b6,b7,b8,b9,b10⟩:=b;exact⟨b1.trans a1.symm,b2.trans a2.symm,b3.trans a3.symm,b4.trans a4.symm,⟨b5.1.trans a5.1.symm,b5.2.1.trans a5.2.1.symm,b5.2.2.trans a5.2.2.symm⟩,b6.trans a6.symm,⟨b7.1.trans a7.1.symm,b7.2.trans a7.2.symm⟩,⟨b8.1.trans a8.1.symm,b8.2.trans a8.2.symm⟩,b9.trans a9.symm,⟨b10.1.trans a10.1.symm,b10.2.1.trans a10.2.1.symm,b10.2.2.trans a10.2.2.symm⟩⟩
theorem implDone_any(E:Nat→Addr)(k:KerV)(s:StepV)(hr:Runs E s)(w:World)(hk:k.at w)(hs:s.at w)(hcap:k.on≤k.ok)(hw:∀i,i<k.on→(Lit.int .i64 (k.O i).id).wf=true∧(Lit.int .i64 (k.O i).up).wf=true)(he:Errs w E)(hE:ErrB w E)(tab:Tab w):
 Calls Tryz.prog 12 #[.agg #[.slice k.ta k.tn k.tk,.slice k.oa k.on k.ok],.agg #[.int .i64 s.th,.int .i64 s.kind,.int .i64 s.id,.int .i64 s.to,.int .i64 s.cat,.string s.data,.int .i64 s.b1,.slice s.c1.a s.c1.n s.c1.k,.int .i64 s.b2,.slice s.c2.a s.c2.n s.c2.k]] w fun e w'=>DoneA k s w e w':=by
 have n10:No (.cells #[.int .i64 s.th,.int .i64 s.kind,.int .i64 s.id,.int .i64 s.to,.int .i64 s.cat,.string s.data,.int .i64 s.b1,.slice s.c1.a s.c1.n s.c1.k,.int .i64 s.b2,.slice s.c2.a s.c2.n s.c2.k] 32):=⟨⟩;have n13:No (.cells #[.slice k.ta k.tn k.tk,.slice k.oa k.on k.ok] 27):=⟨⟩;have n9:Nw ((w.alloc n13).alloc n10):=⟨⟩;have n11:No (.cells #[.slice none 0 0,.slice none 0 0] 27):=⟨⟩;have b0:Below w.heap.size w ((n9:World).alloc n11):=(((Below.refl _ w).alloc (Nat.le_refl _) _).alloc (by simp) _).alloc (by simp;omega) _;have f0:Blk ((n9:World).alloc n11) w.heap.size n13:=((Blk.new w _).alloc _).alloc _;have f1:Blk ((n9:World).alloc n11) (w.heap.size+1) n10:=by
  have h:=(Blk.new (w.alloc n13) n10).alloc n11;rw[show(w.alloc n13).heap.size=w.heap.size+1 from by simp]at h;exact h
 have f2:Blk ((n9:World).alloc n11) (w.heap.size+2) n11:=by
  have h:=Blk.new n9 n11;rw[show(n9:World).heap.size=w.heap.size+2 from by simp]at h;exact h
 have h19:=hE.2.2.2;have h14:14≤w.heap.size:=by omega
 have DN:=hid (done_any E k s hr ((n9:World).alloc n11) (hk.below b0) (hs.below b0) hcap hw (he.below h14 b0) (by have:=b0.size;omega) (tab.below b0));have B0:=hid b0;have F0:=hid f0;have F2:=hid f2;have HK:=hid hk;have HE:=hid he;have HB:=hid hE;obtain⟨x0,x1⟩:=f0.two;obtain⟨y0,y1,y2,y3,y4,y5,y6,y7,y8,y9⟩:=f1.ten;clear b0 f0 f1 f2 hk hs he hE tab hr;go_enter Tryz.func12,Tryz.ntmps12
 go_wp2_with fail
 clear x0 x1 y0 y1 y2 y3 y4 y5 y6 y7 y8 y9;generalize ((n9:World).alloc n11)=w0 at *;refine DN.out.mono ?_;rintro e w1 ⟨kv,tx,v,rfl,b1,⟨ga,qa,n1,n2,c1,c2,rfl⟩,hh⟩;have n12:No (.cells #[.slice ga n1 c1,.slice qa n2 c2] 27):=⟨⟩;have b2:=(Below.refl _ w1).alloc (Nat.le_refl _) n12;have AA:=hid (then_ B0.out b1);have A2:=hid (then_ AA.out b2);have G0:=hid ((F0.out.below b1).below b2);have G2:=hid ((F2.out.below b1).below b2);have G7:=hid (Blk.new w1 n12);have BB:=hid b2;have z1:w.heap.size+2<w1.heap.size:=(F2.out.below b1).lt;have e0:=(HE.out.below h14 A2.out 0 (by omega) (by omega)).1;have s0:w.heap.size+2<w0.heap.size:=F2.out.lt;have HH:=hid hh;clear b1 b2 F0 F2 DN hh;rcases HH.out with⟨nk,r,rfl,br⟩|⟨ok,c,lt,lo,told,hc,sm,dp⟩|⟨ok,rfl,lt,lo,lt',lo',lo2,g,ca,q,co,sm,ekv,ks,ap,so,dp⟩
 ·have IS:=hid (is_yes r 1 (E 0) (w1.alloc n12) (br.below BB.out));have NK:=hid nk;clear nk br HH;go_wp2_with fail
  generalize w1.alloc n12=w2 at *;refine IS.out.mono ?_;rintro e w3 ⟨rfl,hw3⟩;have hw4:=hw3.symm;subst hw4;clear hw3 IS;obtain⟨r0,r1⟩:=G2.out.two;have rf:=G2.out.warm;go_wp2;have gq:=two_set w2 (w.heap.size+2) (.slice none 0 0) (.slice none 0 0);have bb:Below w.heap.size w ((w2.setCell ⟨w.heap.size+2,0,none⟩ (.slice none 0 0)).setCell ⟨w.heap.size+2,1,none⟩ (.slice none 0 0)):=A2.out.trans (below_grown gq A2.out.size (fun j e=>by have:=Option.some.inj e;omega));exact bodyPost_ret (Done_results _ _ (w.heap.size+2) (.slice none 0 0) (.slice none 0 0) _ _ ((G2.out.setAt (i:=0) _).setAt (i:=1) _) rfl rfl rfl) rfl ⟨bb,_,_,_,rfl,.inl ⟨NK.out,rfl,rfl,rfl⟩⟩
 ·rcases told with⟨h0,_⟩|⟨_,r,i,rfl,br,i0,i14,i3,rl⟩
  ·exact absurd h0 hc
  have br2:=br.below BB.out;obtain⟨ca0,ta0,hca⟩:=(HB.out.below A2.out).2.1 i i14 i3;obtain⟨cb0,tb0,hcb⟩:=(HB.out.below A2.out).2.1 0 (by omega) (by omega);have IS:=hid (is_not r c (E i) (E 0) ca0 cb0 ta0 tb0 (w1.alloc n12) br2 (HB.out.1 i i14 i3 i0) hca hcb);have BR:=hid br2;have SM:=hid sm;have DP:=hid dp;have OK:=hid ok;have HB2:=hid (HB.out.below A2.out);have w1l:w1.heap.size<(w1.alloc n12).heap.size:=by simp
  have rlt:r<w1.heap.size:=br.lt;clear hca hcb br br2 sm dp ok HH;go_wp2_with fail
  generalize w1.alloc n12=w2 at *;refine IS.out.mono ?_;rintro e w3 ⟨rfl,hw3⟩;have hw4:=hw3.symm;subst hw4;clear hw3 IS;have n14:No (.cells #[.pointer none] 66):=⟨⟩;have b3:=(Below.refl _ w2).alloc (Nat.le_refl _) n14;have t3:=Blk.new w2 n14;have tc:(w2.alloc n14).cell? ⟨w2.heap.size,0,none⟩=some (.pointer none):=t3.c1;have AS:=hid (as_yes ⟨r,0,none⟩ ⟨w2.heap.size,0,none⟩ (.pointer none) (w2.alloc n14) (HB2.out.below b3).2.2.1 tc (t3.warm _));have gr:=as_grown ⟨r,0,none⟩ w2.heap.size (w2.alloc n14);have gw:w2.grownBy (AsW ⟨r,0,none⟩ ⟨w2.heap.size,0,none⟩ (w2.alloc n14)) none:=⟨gr.os,gr.tape,gr.output,Nat.le_trans b3.size gr.size,fun j hj _=>(gr.block j (Nat.lt_of_lt_of_le hj b3.size) (fun e=>by have:=Option.some.inj e;omega)).trans (b3.block j hj)⟩;have bA:Below w2.heap.size w2 (AsW ⟨r,0,none⟩ ⟨w2.heap.size,0,none⟩ (w2.alloc n14)):=below_grown gw (Nat.le_refl _) (fun j e=>by cases e);have TT:=hid (as_blk (e:=⟨r,0,none⟩) t3);have A4:=hid (then_ A2.out bA);have H0:=hid (G0.out.below bA);have H2:=hid (G2.out.below bA);have R4:=hid (BR.out.below bA);clear b3 t3 tc gr gw bA;go_wp2_with fail
  refine AS.out.mono ?_;rintro e w4 ⟨rfl,hw4⟩;rw[←hw4]at TT A4 H0 H2 R4;clear hw4 AS;have EK:Hid (∀args w,(callFunc 34 args).run Tryz.prog w= .ok (.enter 34 args) w):=hid (enters_of Tryz.func34 (by kernel_rfl) rfl);have PK:Hid (Calls Tryz.prog 34 #[.agg #[.slice k.ta k.tn k.tk,.slice k.oa k.on k.ok]] w4.drew fun e w'=>∃v,e= .returned v∧∃(lt:List ThrV) (lo:List ObjV) (ta oa:Option Addr) (ca co:Nat),v= .agg #[.slice ta lt.length ca,.slice oa lo.length co]∧KSt w' w4.heap.size (.slice ta lt.length ca) (.slice oa lo.length co) lt lo∧Apart lt lo∧k.same (kOf ta ca oa co lt lo)∧Below w4.heap.size w4.drew w'):=hid ((copiedKernel_any k w4.drew ((HK.out.below A4.out).below (Below.refl _ w4).drew) (ker_small OK.out)).mono fun e w' hh=>by
   obtain⟨lt,lo,ta,oa,ca,co,rfl,h1,h2,_,h4,h5⟩:=hh;exact⟨_,rfl,lt,lo,ta,oa,ca,co,rfl,h1,h2,h4,h5⟩)
  go_upto_region 6 with fail
  obtain⟨x0,x1⟩:=(show Blk w4.drew w.heap.size _ from H0.out).two;obtain⟨r0,r1⟩:=(show Blk w4.drew (w.heap.size+2) _ from H2.out).two;have rf:=(show Blk w4.drew (w.heap.size+2) _ from H2.out).warm;have t0:w4.drew.cell? ⟨w2.heap.size,0,none⟩=some (.pointer (some ⟨r,0,none⟩)):=Blk.c1 (show Blk w4.drew w2.heap.size _ from TT.out);obtain⟨q0,q1⟩:=(show Blk w4.drew r _ from R4.out).two;have n1:¬r=w.heap.size+1+1:=by omega
  have n2:¬w.heap.size+1+1=r:=by omega
  have n3:¬r=w.heap.size+2:=by omega
  have n4:¬w.heap.size+2=r:=by omega
  have n5:¬w2.heap.size=w.heap.size+1+1:=by omega
  have n6:¬w.heap.size+1+1=w2.heap.size:=by omega
  have n7:¬w2.heap.size=w.heap.size+2:=by omega
  have n8:¬w.heap.size+2=w2.heap.size:=by omega
  go_region_law(refine step_call (by rfl) 34 _ _ (by rfl) EK.out _ (by rfl) _ PK.out ?_;rintro v w5 ⟨lt5,lo5,ta,oa,ca,co,rfl,ks,ap,sm,b5⟩;have b5':Below w4.heap.size w4 w5:=then_ (Below.refl w4.heap.size w4).drew b5;have K5:=hid ks;have AP5:=hid ap;have SM5:=hid sm;have A5:=hid (then_ A4.out b5');have J2:=hid (H2.out.below b5');have JT:=hid (TT.out.below b5');have JR:=hid (R4.out.below b5');obtain⟨u0,u1⟩:=J2.out.two;have uf:=J2.out.warm;have v0:w5.cell? ⟨w2.heap.size,0,none⟩=some (.pointer (some ⟨r,0,none⟩)):=JT.out.c1;obtain⟨m0,m1⟩:=JR.out.two;clear ks ap sm b5 b5')
  all_goals(
   go_wp2;have n17:Nv (.slice ta lt5.length ca):=⟨⟩;have n18:Nv (.slice oa lo5.length co):=⟨⟩;have gq:=two_set w5 (w.heap.size+2) n17 n18;have bb:Below w.heap.size w ((w5.setCell ⟨w.heap.size+2,0,none⟩ n17).setCell ⟨w.heap.size+2,1,none⟩ n18):=A5.out.trans (below_grown gq A5.out.size (fun j e=>by have:=Option.some.inj e;omega));have tw:=ker_two SM5.out SM.out;have w4l:w.heap.size+2<w4.heap.size:=H2.out.lt;exact bodyPost_ret (Done_results _ _ (w.heap.size+2) n17 n18 _ _ ((J2.out.setAt (i:=0) _).setAt (i:=1) _) rfl rfl rfl) rfl ⟨bb,_,_,_,rfl,.inr ⟨OK.out,lt,lo,lt5,lt,lo5,lo,ta,oa,ca,co,SM.out,rfl,(K5.out.f.past gq (by omega)).base (by omega),AP5.out,tw.1,tw.2,DP.out⟩⟩)
 ·have OK:=hid ok;have SM:=hid sm;have KS:=hid (ks.below BB.out);have AP:=hid ap;have SO:=hid so;have DP:=hid dp;have EKV:=hid ekv;clear ekv;have n16:No (.cells #[.slice ga n1 c1,.slice qa n2 c2] 27):=⟨⟩;have IS:=hid (is_none 264 (.pointer (some (E 0))) (w1.alloc n16));clear ok sm ks ap so dp HH;go_wp2_with fail
  generalize w1.alloc n16=w2 at *;refine IS.out.mono ?_;rintro e w3 ⟨rfl,hw3⟩;have hw4:=hw3.symm;subst hw4;clear hw3 IS;have n15:No (.cells #[.pointer none] 66):=⟨⟩;have b3:=(Below.refl _ w2).alloc (Nat.le_refl _) n15;have A4:=hid (then_ A2.out b3);have H2:=hid (G2.out.below b3);have H7:=hid (G7.out.below b3);have K4:=hid (KS.out.below b3);have AS:=hid (as_none (.iface 68 (.pointer (some ⟨w2.heap.size,0,none⟩))) (w2.alloc n15));clear b3;go_wp2_with fail
  generalize w2.alloc n15=w4 at *;refine AS.out.mono ?_;rintro e w5 ⟨rfl,hw5⟩;have hw6:=hw5.symm;subst hw6;clear hw5 AS;obtain⟨r0,r1⟩:=H2.out.two;have rf:=H2.out.warm;obtain⟨x0,x1⟩:=H7.out.two;go_wp2;have gq:=two_set w4 (w.heap.size+2) (.slice ga n1 c1) (.slice qa n2 c2);have bb:Below w.heap.size w ((w4.setCell ⟨w.heap.size+2,0,none⟩ (.slice ga n1 c1)).setCell ⟨w.heap.size+2,1,none⟩ (.slice qa n2 c2)):=A4.out.trans (below_grown gq A4.out.size (fun j e=>by have:=Option.some.inj e;omega));have KF:=(K4.out.past gq s0).base (show w.heap.size≤w0.heap.size by omega);refine bodyPost_ret (Done_results _ _ (w.heap.size+2) (.slice ga n1 c1) (.slice qa n2 c2) _ _ ((H2.out.setAt (i:=0) _).setAt (i:=1) _) rfl rfl rfl) rfl ⟨bb,_,_,_,rfl,.inr ⟨OK.out,lt,lo,lt',lt',lo',lo2,some ⟨g,0,none⟩,some ⟨q,0,none⟩,ca,co,SM.out,?_,KF,AP.out,SameT.refl _,SO.out,DP.out⟩⟩;exact EKV.out
theorem specDone_no(k:KerV)(w:World)(hk:k.at w)(ok:kerOk k=false)(hw:∀i,i<k.on→(Lit.int .i64 (k.O i).id).wf=true)(s:StepV):
 Calls Tryz.prog 13 #[.agg #[.slice k.ta k.tn k.tk,.slice k.oa k.on k.ok],.agg #[.int .i64 s.th,.int .i64 s.kind,.int .i64 s.id,.int .i64 s.to,.int .i64 s.cat,.string s.data,.int .i64 s.b1,.slice s.c1.a s.c1.n s.c1.k,.int .i64 s.b2,.slice s.c2.a s.c2.n s.c2.k]] w fun e w'=>e= .returned (.tuple #[.agg #[.slice none 0 0,.slice none 0 0],.int .i64 1,.string ⟨#[]⟩])∧Below w.heap.size w w':=by
 have n1:No (.cells #[.int .i64 s.th,.int .i64 s.kind,.int .i64 s.id,.int .i64 s.to,.int .i64 s.cat,.string s.data,.int .i64 s.b1,.slice s.c1.a s.c1.n s.c1.k,.int .i64 s.b2,.slice s.c2.a s.c2.n s.c2.k] 32):=⟨⟩;have n3:Na #[.slice k.ta k.tn k.tk,.slice k.oa k.on k.ok]:=⟨⟩;have n4:No (.cells #[.slice none 0 0,.slice none 0 0] 27):=⟨⟩;have n2:Nw (((w.alloc (.cells n3 27)).alloc n1).alloc n4):=⟨⟩;have b0:Below w.heap.size w n2:=(((Below.refl _ w).alloc (Nat.le_refl _) _).alloc (by simp) _).alloc (by simp;omega) _;have A0:Blk n2 w.heap.size (.cells n3 27):=((Blk.new w _).alloc _).alloc _;have P0:Blk n2 (w.heap.size+1) n1:=by have:=(Blk.new (w.alloc (.cells n3 27)) n1).alloc n4;simpa using this
 have R0:Blk n2 (w.heap.size+1+1) n4:=by have:=Blk.new ((w.alloc (.cells n3 27)).alloc n1) n4;simpa using this
 have HK:=hid hk;have OK:=hid ok;have HB:=hid b0;have HA:=hid A0;have HP:=hid P0;have HR:=hid R0;clear b0 A0 P0 R0 hk ok;go_enter Tryz.func13,Tryz.ntmps13
 obtain⟨x0,x1⟩:=HA.out.two;obtain⟨s0,s1,s2,s3,s4,s5,s6,s7,s8,s9⟩:=HP.out.ten;go_wp2_with fail
 clear x0 x1 s0 s1 s2 s3 s4 s5 s6 s7 s8 s9;have S0:=hid HB.out.size;generalize (n2:World)=V at *;have C1:Hid (Calls Tryz.prog 35 #[.agg n3] V fun e w'=>e= .returned (.bool false)∧Below V.heap.size V w'):=hid (by
  have h:=specKer_any k V (HK.out.below HB.out) hw;rw[OK.out]at h;exact h)
 refine C1.out.mono ?_;rintro e w1 ⟨rfl,hb1⟩;have B1:=hid hb1;have L1:=hid (then_ HB.out hb1);clear hb1;have RB:=hid (HR.out.below B1.out);obtain⟨r0,r1⟩:=RB.out.two;have rf:=RB.out.warm;go_wp2;refine bodyPost_ret (self_results _ _ (w.heap.size+1+1) 4 _ _ _ _ Tryz.results13 ((RB.out.setAt (i:=0) _).setAt (i:=1) _) rfl rfl rfl) rfl ⟨rfl,?_⟩;exact(L1.out.setCell (by dsimp only;omega) _).setCell (by dsimp only;omega) _
theorem EqT.of_nm{l m:List ThrV}(h:EqT (l.map ThrV.nm) (m.map ThrV.nm)):EqT l m:=
 ⟨by simpa using h.1,fun j hj=>by
   have e:=h.2 j (by simpa using hj);rw[atTN,atTN]at e;exact e⟩
theorem EqO.of_nm{l m:List ObjV}(h:EqO (l.map ObjV.nm) (m.map ObjV.nm)):EqO l m:=
 ⟨by simpa using h.1,fun j hj=>by
   have e:=h.2 j (by simpa using hj);rw[atN,atN]at e;exact e⟩
theorem thr_nm{x y z:ThrV}(a:x.same y)(b:x.same z):y.nm=z.nm:=by
 obtain⟨a1,a2,a3,a4,a5,a6,a7⟩:=a;obtain⟨b1,b2,b3,b4,b5,b6,b7⟩:=b;unfold ThrV.nm CatL.nm IntL.nm;rw[a1,b1,a2,b2,a3.1,b3.1,a3.2.1,b3.2.1,a3.2.2,b3.2.2,a4,b4,a5.1,b5.1,a5.2.1,b5.2.1,a5.2.2,b5.2.2,a6.1,b6.1,a6.2,b6.2,a7,b7]
theorem obj_nm{x y z:ObjV}(a:x.same y)(b:x.same z):y.nm=z.nm:=by
 obtain⟨a1,a2,a3,a4,a5,a6,a7,a8,a9,a10⟩:=a;obtain⟨b1,b2,b3,b4,b5,b6,b7,b8,b9,b10⟩:=b;unfold ObjV.nm CatL.nm IntL.nm StrL.nm;rw[a1,b1,a2,b2,a3,b3,a4,b4,a5.1,b5.1,a5.2.1,b5.2.1,a5.2.2,b5.2.2,a6,b6,a7.1,b7.1,a7.2,b7.2,a8.1,b8.1,a8.2,b8.2,a9,b9,a10.1,b10.1,a10.2.1,b10.2.1,a10.2.2,b10.2.2]
theorem list_nmT{l m:List ThrV}(e:m.length=l.length)(h:∀j,j<l.length→(atOwnT l j).nm=(atOwnT m j).nm):l.map ThrV.nm=m.map ThrV.nm:=by
 refine List.ext_getElem (by simp[e]) fun j h1 h2=>?_;simp only[List.length_map]at h1 h2;have:=h j h1;rw[List.getElem_map,List.getElem_map];unfold atOwnT at this;rw[List.getD_eq_getElem?_getD,List.getD_eq_getElem?_getD,List.getElem?_eq_getElem h1,List.getElem?_eq_getElem h2]at this;exact this
theorem list_nmO{l m:List ObjV}(e:m.length=l.length)(h:∀j,j<l.length→(atOwnOb l j).nm=(atOwnOb m j).nm):l.map ObjV.nm=m.map ObjV.nm:=by
 refine List.ext_getElem (by simp[e]) fun j h1 h2=>?_;simp only[List.length_map]at h1 h2;have:=h j h1;rw[List.getElem_map,List.getElem_map];unfold atOwnOb at this;rw[List.getD_eq_getElem?_getD,List.getD_eq_getElem?_getD,List.getElem?_eq_getElem h1,List.getElem?_eq_getElem h2]at this;exact this
theorem ker_nm{k:KerV}{lt lt2:List ThrV}{lo lo2:List ObjV}(h:k.same (kOf none 0 none 0 lt lo))(h2:k.same (kOf none 0 none 0 lt2 lo2)):lt.map ThrV.nm=lt2.map ThrV.nm∧lo.map ObjV.nm=lo2.map ObjV.nm:=by
 refine⟨list_nmT (h2.1.trans h.1.symm) fun j hj=>?_,list_nmO (h2.2.2.1.trans h.2.2.1.symm) fun j hj=>?_⟩
 ·have hj':j<k.tn:=by have e:lt.length=k.tn:=h.1;omega
  exact thr_nm (h.2.1 j hj') (h2.2.1 j hj')
 ·have hj':j<k.on:=by have e:lo.length=k.on:=h.2.2.1;omega
  exact obj_nm (h.2.2.2 j hj') (h2.2.2.2 j hj')
theorem done_tells{k:KerV}{s:StepV}{lt lt2 lt' lt2':List ThrV}{lo lo2 lo' lo2':List ObjV}{c c2:Int}{tx tx2:ByteArray}(h:k.same (kOf none 0 none 0 lt lo))(h2:k.same (kOf none 0 none 0 lt2 lo2))(p:DoneP lt lo s c tx lt' lo')(p2:DoneP lt2 lo2 s c2 tx2 lt2' lo2'):Tells c c2 tx tx2 lt' lt2' lo' lo2':=by
 obtain⟨et,eo⟩:=ker_nm h h2;have ea:atT lt s.th=atT lt2 s.th:=by rw[←atT_N lt,←atT_N lt2,et]
 have s1:EqT lt lt2:= .of_nm (by rw[et];exact .refl _);have s2:EqO lo lo2:= .of_nm (by rw[eo];exact .refl _);cases p with
 |form a hc ht e1 e2=>
  cases p2 with
  |form a' hc' ht' e1' e2'=>exact⟨hc'.trans hc.symm,ht'.trans ht.symm,by rw[e1,e1'];exact s1,by rw[e2,e2'];exact s2⟩
  |thread a'=>rw[a]at a';cases a'
  |act a'=>rw[a]at a';cases a'
 |thread a hn hc ht e1 e2=>
  cases p2 with
  |form a'=>rw[a]at a';cases a'
  |thread a' hn' hc' ht' e1' e2'=>exact⟨hc'.trans hc.symm,ht'.trans ht.symm,by rw[e1,e1'];exact s1,by rw[e2,e2'];exact s2⟩
  |act a' t ht' hn' p2=>rw[←ea,hn]at hn';cases hn'
 |act a t ht hn p=>
  cases p2 with
  |form a'=>rw[a]at a';cases a'
  |thread a' hn'=>rw[←ea,hn]at hn';cases hn'
  |act a' t' ht' hn' p2=>
   rw[←ea,hn]at hn';cases hn';have q:=act_N p;have q2:=act_N p2;have ex:lt[t].nm=lt2[t].nm:=by
    have e:(lt.map ThrV.nm)[t]? =(lt2.map ThrV.nm)[t]?:=(by rw[et]);rw[List.getElem?_map,List.getElem?_map,List.getElem?_eq_getElem ht,List.getElem?_eq_getElem ht']at e;exact Option.some.inj e
   rw[←ex,←et,←eo]at q2;obtain⟨z1,z2,z3,z4⟩:=act_tells q q2;exact⟨z1,z2,.of_nm z3,.of_nm z4⟩
theorem EqT.after{l m n:List ThrV}(h:SameT l m)(h2:EqT m n):EqT l n:=⟨h2.1.trans h.1,fun j hj=>by
 have e:=h2.2 j (by rw[h.1];exact hj);obtain⟨a1,a2,a3,a4,a5,a6,a7⟩:=h.2 j hj;obtain⟨b1,b2,b3,b4,b5,b6,b7⟩:=e;exact⟨b1.trans a1,b2.trans a2,⟨b3.1.trans a3.1,fun i hi=>⟨(b3.2 i (by rw[a3.1];exact hi)).1.trans (by rw[a3.2.1]),(b3.2 i (by rw[a3.1];exact hi)).2.trans (by rw[a3.2.2])⟩⟩,b4.trans a4,⟨b5.1.trans a5.1,fun i hi=>⟨(b5.2 i (by rw[a5.1];exact hi)).1.trans (by rw[a5.2.1]),(b5.2 i (by rw[a5.1];exact hi)).2.trans (by rw[a5.2.2])⟩⟩,⟨b6.1.trans a6.1,fun i hi=>(b6.2 i (by rw[a6.1];exact hi)).trans (by rw[a6.2])⟩,b7.trans a7⟩⟩
theorem EqO.after{l m n:List ObjV}(h:SameO l m)(h2:EqO m n):EqO l n:=⟨h2.1.trans h.1,fun j hj=>by
 have e:=h2.2 j (by rw[h.1];exact hj);obtain⟨a1,a2,a3,a4,a5,a6,a7,a8,a9,a10⟩:=h.2 j hj;obtain⟨b1,b2,b3,b4,b5,b6,b7,b8,b9,b10⟩:=e;exact⟨b1.trans a1,b2.trans a2,b3.trans a3,b4.trans a4,⟨b5.1.trans a5.1,fun i hi=>⟨(b5.2 i (by rw[a5.1];exact hi)).1.trans (by rw[a5.2.1]),(b5.2 i (by rw[a5.1];exact hi)).2.trans (by rw[a5.2.2])⟩⟩,b6.trans a6,⟨b7.1.trans a7.1,fun i hi=>(b7.2 i (by rw[a7.1];exact hi)).trans (by rw[a7.2])⟩,⟨b8.1.trans a8.1,fun i hi=>(b8.2 i (by rw[a8.1];exact hi)).trans (by rw[a8.2])⟩,b9.trans a9,⟨b10.1.trans a10.1,fun i hi=>⟨(b10.2 i (by rw[a10.1];exact hi)).1.trans (by rw[a10.2.1]),(b10.2 i (by rw[a10.1];exact hi)).2.trans (by rw[a10.2.2])⟩⟩⟩⟩
end Go.Proofs.YtallmkehpfaaeaaGreatDoor
