import Derived.Test.YtphddbnadcjhgaaGreatDoorZ30
import Derived.Test.YtphddbnadcjhgaaGreatDoorDWV
import Derived.Test.YtphddbnadcjhgaaGreatDoorZ20
import Derived.Test.YtphddbnadcjhgaaGreatDoorZ28
import Derived.Test.YtphddbnadcjhgaaGreatDoorZ26
import Derived.Test.YtphddbnadcjhgaaGreatDoorZ2
import Derived.Test.YtphddbnadcjhgaaGreatDoorZ34
set_option maxRecDepth 100000
set_option maxHeartbeats 16000000
namespace Go.Proofs.YtphddbnadcjhgaaGreatDoor
open Go Go.RowKit Go.Deep Go.Extern.Stop Go.Stop Go.Extern Go.Proofs.Tryz
theorem Vi(t:Addr)(w:World):(ReflectliteValue.unpack (.iface 55 (.pointer (some t)))).run prog w
 = .ok (.agg #[.pointer (some ⟨18,55,none⟩),.pointer (some ⟨w,0,none⟩),.int .u64 150]) (w.alloc (.cells #[.pointer (some t)] 55)):=by kernel_rfl
theorem Zx(a:Addr)(w:World):(ReflectliteValue.methodAny (ReflectliteValue.valueError "reflectlite.Value.Type" 0) (fun t _ _ _=>ReflectliteType.toType t) #[.agg #[.pointer (some ⟨18,55,none⟩),.pointer (some a),.int .u64 150]]).run prog w
 = .ok (.iface 132 (.agg #[.pointer (some ⟨18,55,none⟩)])) w:=by kernel_rfl
theorem Yo(h:Value)(w:World):(Go.method 390 132 (.agg #[h]) "Kind").run prog w= .ok (216,h) w:=by kernel_rfl
theorem Xv(w:World):((ReflectliteType.abiMethod fun t=>(fun a:Nat=>Value.int IntKind.u8 (a:Int))<$>Rtype.kind t) #[.pointer (some ⟨18,55,none⟩)]).run prog w= .ok (.int .u8 22) w:=by kernel_rfl
theorem WY(w:World):((ReflectliteType.abiMethod fun t=>(fun a:Nat=>Value.int IntKind.u8 (a:Int))<$>Rtype.kind t) #[.pointer (some ⟨18,53,none⟩)]).run prog w= .ok (.int .u8 22) w:=by kernel_rfl
theorem Q8(z:Sem Value)(f:TypeId->Addr->Nat->Nat->Sem Value)(v:Value):
 ReflectliteValue.method z f #[v]=(do match <-ReflectliteValue.parts v with|none=>z|some (t,a,fl)=>f t a fl (fl%32)):=rfl
theorem Ph(a:Addr)(w:World):(ReflectliteValue.parts (.agg #[.pointer (some ⟨18,55,none⟩),.pointer (some a),.int .u64 150])).run prog w= .ok (some (55,a,150)) w:=by kernel_rfl
theorem Yc(a p:Addr)(W:World)(ha:W.cell? a=some (.pointer (some p))):
 (ReflectliteValue.method (ReflectliteValue.valueError "reflectlite.Value.IsNil" 0) ReflectliteValue.isNil #[.agg #[.pointer (some ⟨18,55,none⟩),.pointer (some a),.int .u64 150]]).run prog W= .ok (.bool false) W:=by
 rw[Q8];simp only[Sem.run_bind,Ph,Result.andThen];simp[ReflectliteValue.isNil,loadVar,isAgg,underlying,underlying55,ha,Result.andThen]
theorem YF(h:Value)(w:World):(Go.method 390 132 (.agg #[h]) "Elem").run prog w= .ok (228,.agg #[h]) w:=by kernel_rfl
theorem YE(h:Value)(w:World):(Go.method 390 132 (.agg #[h]) "Implements").run prog w= .ok (229,.agg #[h]) w:=by kernel_rfl
theorem Zt(h:Value)(w:World):(Go.method 390 132 (.agg #[h]) "AssignableTo").run prog w= .ok (226,.agg #[h]) w:=by kernel_rfl
theorem Zl(w:World):(ReflectliteType.method ReflectliteType.elem #[.agg #[.pointer (some ⟨18,55,none⟩)]]).run prog w= .ok (.iface 132 (.agg #[.pointer (some ⟨18,53,none⟩)])) w:=by kernel_rfl
theorem ZM(w:World):(ReflectliteType.relation "Implements" ReflectliteType.implements_ #[.agg #[.pointer (some ⟨18,53,none⟩)],.iface 132 (.agg #[.pointer (some ⟨18,49,none⟩)])]).run prog w= .ok (.bool true) w:=by kernel_rfl
theorem Xg(v:Value)(w:World):(ReflectliteType.typeOf #[.iface 53 v]).run prog w= .ok (.iface 132 (.agg #[.pointer (some ⟨18,53,none⟩)])) w:=by kernel_rfl
theorem ak(w:World):(ReflectliteType.relation "AssignableTo" ReflectliteType.assignableTo #[.agg #[.pointer (some ⟨18,53,none⟩)],.iface 132 (.agg #[.pointer (some ⟨18,53,none⟩)])]).run prog w= .ok (.bool true) w:=by kernel_rfl
theorem Si(e:Addr)(w:World):(ReflectliteValue.unpack (.iface 53 (.pointer (some e)))).run prog w
 = .ok (.agg #[.pointer (some ⟨18,53,none⟩),.pointer (some ⟨w,0,none⟩),.int .u64 150]) (w.alloc (.cells #[.pointer (some e)] 53)):=by kernel_rfl
theorem XQ(w:World):(Rtype.elem? 55).run prog w= .ok (some 53) w:=by kernel_rfl
theorem aO(p:Addr)(w:World):(ReflectliteValue.mk 53 p ReflectliteValue.flagAddr).run prog w= .ok (.agg #[.pointer (some ⟨18,53,none⟩),.pointer (some p),.int .u64 406]) w:=by kernel_rfl
theorem XY(a p:Addr)(W:World)(ha:W.cell? a=some (.pointer (some p))):
 (ReflectliteValue.method (ReflectliteValue.valueError "reflectlite.Value.Elem" 0) ReflectliteValue.elem #[.agg #[.pointer (some ⟨18,55,none⟩),.pointer (some a),.int .u64 150]]).run prog W
   = .ok (.agg #[.pointer (some ⟨18,53,none⟩),.pointer (some p),.int .u64 406]) W:=by
 rw[Q8];simp only[Sem.run_bind,Ph,Result.andThen];simp[ReflectliteValue.elem,loadVar,isAgg,underlying,underlying55,ha,Result.andThen,XQ,aO]
theorem TJ(a:Addr)(w:World):(ReflectliteValue.parts (.agg #[.pointer (some ⟨18,53,none⟩),.pointer (some a),.int .u64 406])).run prog w= .ok (some (53,a,406)) w:=by kernel_rfl
theorem UH(a:Addr)(w:World):(ReflectliteValue.parts (.agg #[.pointer (some ⟨18,53,none⟩),.pointer (some a),.int .u64 150])).run prog w= .ok (some (53,a,150)) w:=by kernel_rfl
theorem Wt(w:World):(Rtype.directlyAssignable 53 53).run prog w= .ok true w:=by kernel_rfl
theorem XX(v x:Value)(h1:Value->Value->Sem Value)(h2:Array Value->Sem Value):ReflectliteValue.set.match_3 (fun _=>Sem Value) #[v,x] h1 h2=h1 v x:=rfl
theorem Z7(ta b e:Addr)(old:Value)(W:World)(hb:W.cell? b=some (.pointer (some e)))(ht:W.cell? ta=some old)(hf:W.frozen? ta=false):
 (ReflectliteValue.set #[.agg #[.pointer (some ⟨18,53,none⟩),.pointer (some ta),.int .u64 406],.agg #[.pointer (some ⟨18,53,none⟩),.pointer (some b),.int .u64 150]]).run prog W
   = .ok (.tuple #[]) (W.setCell ta (.pointer (some e))):=by
 delta ReflectliteValue.set;rw[XX];simp only[Sem.run_bind,TJ,UH,Result.andThen];simp[ReflectliteValue.flagAddr,loadVar,isAgg,underlying,underlying53,hb,Result.andThen,Wt,storeVar,Value.cells,storeCells,Addr.add];rw[run_store prog W ta _ _ (by rfl)];simp[ht,hf]
def YQ(e t:Addr)(w:World):World:=((((w.alloc (.cells #[.pointer (some t)] 55)).alloc (.cells #[.pointer (some ⟨18,55,none⟩),.pointer (some ⟨w,0,none⟩),.int .u64 150] 100)).alloc (.cells #[.pointer (some ⟨18,55,none⟩),.pointer (some ⟨w,0,none⟩),.int .u64 150] 100)).alloc (.cells #[.pointer (some e)] 53)).setCell t (.pointer (some e))
theorem ZD(e t:Addr)(old:Value)(w:World)(hg:w.cell? ⟨3,0,none⟩=some (.iface 132 (.agg #[.pointer (some ⟨18,49,none⟩)])))(ht0:w.cell? t=some old)(hf0:w.frozen? t=false):
 Calls prog 15 #[.iface 53 (.pointer (some e)),.iface 55 (.pointer (some t))] w fun ev w'=>ev= .returned (.bool true)/\w'=YQ e t w:=by
 have h60:=@run_callFunc_extern prog 40 _ (fun args=>ReflectliteValue.unpack (args.getD 0 (.tuple #[]))) func40 (by kernel_rfl) (by kernel_rfl) (by kernel_rfl) (by kernel_rfl);have h61:=@run_callFunc_extern prog 41 _ (ReflectliteValue.methodAny (ReflectliteValue.valueError "reflectlite.Value.Type" 0) (fun t _ _ _=>ReflectliteType.toType t)) func41 (by kernel_rfl) (by kernel_rfl) (by kernel_rfl) (by kernel_rfl);have h62:=@run_callFunc_extern prog 42 _ (ReflectliteValue.method (ReflectliteValue.valueError "reflectlite.Value.IsNil" 0) ReflectliteValue.isNil) func42 (by kernel_rfl) (by kernel_rfl) (by kernel_rfl) (by kernel_rfl);have h243:=@run_callFunc_extern prog 216 _ (ReflectliteType.abiMethod fun t=>do pure (.int .u8 (<-Rtype.kind t))) func216 (by kernel_rfl) (by kernel_rfl) (by kernel_rfl) (by kernel_rfl);have h254:=@run_callFunc_extern prog 228 _ (ReflectliteType.method ReflectliteType.elem) func228 (by kernel_rfl) (by kernel_rfl) (by kernel_rfl) (by kernel_rfl);have h255:=@run_callFunc_extern prog 229 _ (ReflectliteType.relation "Implements" ReflectliteType.implements_) func229 (by kernel_rfl) (by kernel_rfl) (by kernel_rfl) (by kernel_rfl);have h58:=@run_callFunc_extern prog 38 _ ReflectliteType.typeOf func38 (by kernel_rfl) (by kernel_rfl) (by kernel_rfl) (by kernel_rfl);have h252:=@run_callFunc_extern prog 226 _ (ReflectliteType.relation "AssignableTo" ReflectliteType.assignableTo) func226 (by kernel_rfl) (by kernel_rfl) (by kernel_rfl) (by kernel_rfl);have h116:=@run_callFunc_extern prog 78 _ (ReflectliteValue.method (ReflectliteValue.valueError "reflectlite.Value.Elem" 0) ReflectliteValue.elem) func78 (by kernel_rfl) (by kernel_rfl) (by kernel_rfl) (by kernel_rfl);have h117:=@run_callFunc_extern prog 79 _ ReflectliteValue.set func79 (by kernel_rfl) (by kernel_rfl) (by kernel_rfl) (by kernel_rfl);have l1:=Xg;have l2:=Zt;have l3:=ak;have l4:=Si;have l5:=Vi;have l6:=Zx;have l7:=Yo;have l8:=YF;have l9:=YE;have l10:=Xv;have l11:=WY;have l12:=Zl;have l13:=ZM;have n1:No (.cells #[.pointer (some ⟨18,55,none⟩),.pointer (some ⟨w,0,none⟩),.int .u64 150] 100):=⟨⟩;have n2:Nw ((w.alloc (.cells #[.pointer (some t)] 55)).alloc n1):=⟨⟩;have n8:=Yc ⟨w,0,none⟩ t n2 (by simp);have hlt:3<w.heap.size:=by
  rcases Nat.lt_or_ge 3 w with h|h
  ·exact h
  ·simp[World.cell?,Array.getElem?_eq_none h]at hg
 have hg2:(n2:World).cell? ⟨3,0,none⟩=some (.iface 132 (.agg #[.pointer (some ⟨18,49,none⟩)])):=by
  rw[World.cell?_alloc_lt _ _ ⟨3,0,none⟩ (by simp;omega),World.cell?_alloc_lt _ _ ⟨3,0,none⟩ hlt];exact hg
 have htl:t.block<w.heap.size:=by
  rcases Nat.lt_or_ge t.block w with h|h
  ·exact h
  ·simp[World.cell?,Array.getElem?_eq_none h]at ht0
 have el:=XY ⟨w,0,none⟩ t ((n2:World).alloc n1) (by rw[World.cell?_alloc_lt _ _ ⟨w,0,none⟩ (by simp;omega)];simp);have st:=Z7 t ⟨w.heap.size+1+1+1,0,none⟩ e old (((n2:World).alloc n1).alloc (.cells #[.pointer (some e)] 53))
  (by rw[World.cell?_alloc_at _ _ _ _ (by simp)];rfl)
  (by rw[World.cell?_alloc_lt _ _ t (by simp;omega),World.cell?_alloc_lt _ _ t (by simp;omega),World.cell?_alloc_lt _ _ t (by simp;omega),World.cell?_alloc_lt _ _ t htl];exact ht0)
  (by rw[World.frozen?_alloc_old _ _ t (by simp;omega),World.frozen?_alloc_old _ _ t (by simp;omega),World.frozen?_alloc_old _ _ t (by simp;omega),World.frozen?_alloc_old _ _ t (Nat.ne_of_lt htl)];exact hf0)
 unfold YQ;go_enter func15,ntmps15
 go_wp2;refine wp_loop_rounds 1 ?_;rw[rounds_succ];go_wp2;go_ret;exact⟨rfl,rfl⟩
open Go.Maps Go.BigFrame Go.Shelf
def Xp(w:World)(E:Nat->Addr):Prop:=(∀i,i<14->i≠3->i≠0->E i≠E 0)/\(∀i,i<14->i≠3->∃ca ta,w.heap[(E i).block]? =some (.cells ca ta (0,0)))/\w.cell? ⟨3,0,none⟩=some (.iface 132 (.agg #[.pointer (some ⟨18,49,none⟩)]))/\17<w.heap.size
theorem Xp.below{w w':World}{E:Nat->Addr}(h:Xp w E)(hb:Below w.heap.size w w'):Xp w' E:=by
 refine⟨h.1,fun i h1 h2=>?_,?_,Nat.lt_of_lt_of_le h.2.2.2 hb.size⟩
 ·obtain⟨ca,ta,hc⟩:=h.2.1 i h1 h2;exact⟨ca,ta,(hb.block _ (Array.getElem?_eq_some_iff.1 hc).1).trans hc⟩
 ·exact(hb.cell (p:=⟨3,0,none⟩) (by have:=h.2.2.2;show 3<_;omega)).trans h.2.2.1
theorem Xq(e:Addr)(tb:Nat)(w:World):w.grownBy (YQ e ⟨tb,0,none⟩ w) (some tb):=by
 unfold YQ;refine Bh (Tt ⟨rfl,rfl,rfl,Nat.le_refl _,fun _ _ _=>rfl⟩ ?_) _ _;exact((((Below.refl _ w).alloc (Nat.le_refl _) _).alloc (by simp) _).alloc (by simp;omega) _).alloc (by simp;omega) _
theorem Zv{e:Addr}{tb:Nat}{w:World}(h:Ah w tb (.cells #[.pointer none] 53)):Ah (YQ e ⟨tb,0,none⟩ w) tb (.cells #[.pointer (some e)] 53):=by
 unfold YQ;exact((((h.alloc _).alloc _).alloc _).alloc _).setAt (i:=0) _
theorem Ah.c1{W:World}{P t:Nat}{x:Value}(h:Ah W P (.cells #[x] t)):W.cell? ⟨P,0,none⟩=some x:=by
 unfold Ah at h;simp[World.cell?,h]
def JV(l l2:List Ac):Prop:=l2.length=l.length/\∀j,j<l.length->(AY l j).same (AY l2 j)
theorem JV.refl(l:List Ac):JV l l:=⟨rfl,fun _ _=>FR _⟩
def Wa(k:Aq)(s:Al)(w:World)(e:Ending)(w':World):Prop:=
 Below w.heap.size w w'/\∃(kv:Value) (c:Int) (tx:ByteArray),e= .returned (.tuple #[kv,.int .i64 c,.string tx])/\
 ((AZ k=false/\kv= .agg #[.slice none 0 0,.slice none 0 0]/\c=1/\tx=⟨#[]⟩)∨
  (AZ k=true/\∃(lt:List Ac) (lo:List Ab) (lt' lt2:List Ac) (lo' lo2:List Ab) (ta oa:Option Addr) (ca co:Nat),k.same (Ck none 0 none 0 lt lo)/\kv= .agg #[.slice ta lt'.length ca,.slice oa lo'.length co]/\Hs w' w.heap.size (.slice ta lt'.length ca) (.slice oa lo'.length co) lt' lo'/\Apart lt' lo'/\JV lt' lt2/\Jb lo' lo2/\FM lt lo s c tx lt2 lo2))
theorem Hk(tmps:Array Value)(W:World)(P:Nat)(x y v5 v6:Value)(h:Ah W P (.cells #[x,y] 27))(h4:tmps[4]? =some (.pointer (some ⟨P,0,none⟩)))(h5:tmps[5]? =some v5)(h6:tmps[6]? =some v6):
 (results Tryz.f6 tmps).run prog W= .ok (.tuple #[.agg #[x,y],v5,v6]) W:=by
 obtain⟨z0,z1⟩:=h.two;simp[results,Tryz.results6,go_sem,h4,h5,h6,z0,z1]
theorem Yh{k:Aq}{lt lt2:List Ac}{lo lo2:List Ab}{ta oa:Option Addr}{ca co:Nat}(h:k.same (Ck ta ca oa co lt lo))(h2:k.same (Ck none 0 none 0 lt2 lo2)):JV lt lt2/\Jb lo lo2:=by
 refine⟨⟨h2.1.trans h.1.symm,fun j hj=>?_⟩,h2.2.2.1.trans h.2.2.1.symm,fun j hj=>?_⟩
 ·have hj':j<k.tn:=by have e:lt.length=k.tn:=h.1;omega
  have a:(k.T j).same (AY lt j):=h.2.1 j hj';have b:(k.T j).same (AY lt2 j):=h2.2.1 j hj';obtain⟨a1,a2,a3,a4,a5,a6,a7⟩:=a;obtain⟨b1,b2,b3,b4,b5,b6,b7⟩:=b;exact⟨b1.trans a1.symm,b2.trans a2.symm,⟨b3.1.trans a3.1.symm,b3.2.1.trans a3.2.1.symm,b3.2.2.trans a3.2.2.symm⟩,b4.trans a4.symm,⟨b5.1.trans a5.1.symm,b5.2.1.trans a5.2.1.symm,b5.2.2.trans a5.2.2.symm⟩,⟨b6.1.trans a6.1.symm,b6.2.trans a6.2.symm⟩,b7.trans a7.symm⟩
 ·have hj':j<k.on:=by have e:lo.length=k.on:=h.2.2.1;omega
  have a:(k.O j).same (Aa lo j):=h.2.2.2 j hj';have b:(k.O j).same (Aa lo2 j):=h2.2.2.2 j hj';obtain⟨a1,a2,a3,a4,a5,a6,a7,a8,a9,a10⟩:=a;obtain⟨b1,b2,b3,b4,b5,b6,b7,b8,b9,b10⟩:=b;exact⟨b1.trans a1.symm,b2.trans a2.symm,b3.trans a3.symm,b4.trans a4.symm,⟨b5.1.trans a5.1.symm,b5.2.1.trans a5.2.1.symm,b5.2.2.trans a5.2.2.symm⟩,b6.trans a6.symm,⟨b7.1.trans a7.1.symm,b7.2.trans a7.2.symm⟩,⟨b8.1.trans a8.1.symm,b8.2.trans a8.2.symm⟩,b9.trans a9.symm,⟨b10.1.trans a10.1.symm,b10.2.1.trans a10.2.1.symm,b10.2.2.trans a10.2.2.symm⟩⟩
theorem Qm(E:Nat->Addr)(k:Aq)(s:Al)(hr:WC E s)(w:World)(hk:k.at w)(hs:s.at w)(hcap:k.on<=k.ok)(hw:∀i,i<k.on->(Lit.int .i64 (k.O i).id).wf=true/\(Lit.int .i64 (k.O i).up).wf=true)(he:Mp w E)(hE:Xp w E)(tab:TZ w):
 Calls prog 6 #[.agg #[.slice k.ta k.tn k.tk,.slice k.oa k.on k.ok],.agg #[.int .i64 s.th,.int .i64 s.kind,.int .i64 s.id,.int .i64 s.to,.int .i64 s.cat,.string s.data,.int .i64 s.b1,.slice s.c1.a s.c1.n s.c1.k,.int .i64 s.b2,.slice s.c2.a s.c2.n s.c2.k]] w fun e w'=>Wa k s w e w':=by
 have n10:No (.cells #[.int .i64 s.th,.int .i64 s.kind,.int .i64 s.id,.int .i64 s.to,.int .i64 s.cat,.string s.data,.int .i64 s.b1,.slice s.c1.a s.c1.n s.c1.k,.int .i64 s.b2,.slice s.c2.a s.c2.n s.c2.k] 32):=⟨⟩;have n13:No (.cells #[.slice k.ta k.tn k.tk,.slice k.oa k.on k.ok] 27):=⟨⟩;have n9:Nw ((w.alloc n13).alloc n10):=⟨⟩;have n11:No (.cells #[.slice none 0 0,.slice none 0 0] 27):=⟨⟩;have b0:Below w.heap.size w ((n9:World).alloc n11):=(((Below.refl _ w).alloc (Nat.le_refl _) _).alloc (by simp) _).alloc (by simp;omega) _;have f0:Ah ((n9:World).alloc n11) w.heap.size n13:=((Ah.new w _).alloc _).alloc _;have f1:Ah ((n9:World).alloc n11) (w.heap.size+1) n10:=by
  have h:=(Ah.new (w.alloc n13) n10).alloc n11;rw[show(w.alloc n13).heap.size=w.heap.size+1 from by simp]at h;exact h
 have f2:Ah ((n9:World).alloc n11) (w.heap.size+2) n11:=by
  have h:=Ah.new n9 n11;rw[show(n9:World).heap.size=w.heap.size+2 from by simp]at h;exact h
 have h19:=hE.2.2.2;have h14:14<=w.heap.size:=by omega
 have DN:=hid (Xa E k s hr ((n9:World).alloc n11) (hk.below b0) (hs.below b0) hcap hw (he.below h14 b0) (by have:=b0.size;omega) (tab.below b0));have B0:=hid b0;have F0:=hid f0;have F2:=hid f2;have HK:=hid hk;have HE:=hid he;have HB:=hid hE;obtain⟨x0,x1⟩:=f0.two;obtain⟨y0,y1,y2,y3,y4,y5,y6,y7,y8,y9⟩:=f1.ten;clear b0 f0 f1 f2 hk hs he hE tab hr;go_enter func6,ntmps6
 go_wp2_with fail
 clear x0 x1 y0 y1 y2 y3 y4 y5 y6 y7 y8 y9;generalize ((n9:World).alloc n11)=w0 at *;refine DN.out.mono ?_;rintro e w1 ⟨kv,tx,v,rfl,b1,⟨ga,qa,n1,n2,c1,c2,rfl⟩,hh⟩;have n12:No (.cells #[.slice ga n1 c1,.slice qa n2 c2] 27):=⟨⟩;have b2:=(Below.refl _ w1).alloc (Nat.le_refl _) n12;have AA:=hid (Af B0.out b1);have A2:=hid (Af AA.out b2);have G0:=hid ((F0.out.below b1).below b2);have G2:=hid ((F2.out.below b1).below b2);have G7:=hid (Ah.new w1 n12);have BB:=hid b2;have z1:w.heap.size+2<w1.heap.size:=(F2.out.below b1).lt;have e0:=(HE.out.below h14 A2.out 0 (by omega) (by omega)).1;have s0:w.heap.size+2<w0.heap.size:=F2.out.lt;have HH:=hid hh;clear b1 b2 F0 F2 DN hh;rcases HH.out with⟨nk,r,rfl,br⟩|⟨ok,c,lt,lo,told,hc,sm,dp⟩|⟨ok,rfl,lt,lo,lt',lo',lo2,g,ca,q,co,sm,ekv,ks,ap,so,dp⟩
 ·have IS:=hid (Zh r 1 (E 0) (w1.alloc n12) (br.below BB.out));have NK:=hid nk;clear nk br HH;go_wp2_with fail
  generalize w1.alloc n12=w2 at *;refine IS.out.mono ?_;rintro e w3 ⟨rfl,hw3⟩;have hw4:=hw3.symm;subst hw4;clear hw3 IS;obtain⟨r0,r1⟩:=G2.out.two;have rf:=G2.out.warm;go_wp2;have gq:=GK w2 (w.heap.size+2) (.slice none 0 0) (.slice none 0 0);have bb:Below w.heap.size w ((w2.setCell ⟨w.heap.size+2,0,none⟩ (.slice none 0 0)).setCell ⟨w.heap.size+2,1,none⟩ (.slice none 0 0)):=A2.out.trans (below_grown gq A2.out.size (fun j e=>by have:=Option.some.inj e;omega));exact bodyPost_ret (Hk _ _ (w.heap.size+2) (.slice none 0 0) (.slice none 0 0) _ _ ((G2.out.setAt (i:=0) _).setAt (i:=1) _) rfl rfl rfl) rfl ⟨bb,_,_,_,rfl,.inl ⟨NK.out,rfl,rfl,rfl⟩⟩
 ·rcases told with⟨h0,_⟩|⟨_,r,i,rfl,br,i0,i14,i3,rl⟩
  ·exact absurd h0 hc
  have br2:=br.below BB.out;obtain⟨ca0,ta0,hca⟩:=(HB.out.below A2.out).2.1 i i14 i3;obtain⟨cb0,tb0,hcb⟩:=(HB.out.below A2.out).2.1 0 (by omega) (by omega);have IS:=hid (Zy r c (E i) (E 0) ca0 cb0 ta0 tb0 (w1.alloc n12) br2 (HB.out.1 i i14 i3 i0) hca hcb);have BR:=hid br2;have SM:=hid sm;have DP:=hid dp;have OK:=hid ok;have HB2:=hid (HB.out.below A2.out);have w1l:w1.heap.size<(w1.alloc n12).heap.size:=by simp
  have rlt:r<w1.heap.size:=br.lt;clear hca hcb br br2 sm dp ok HH;go_wp2_with fail
  generalize w1.alloc n12=w2 at *;refine IS.out.mono ?_;rintro e w3 ⟨rfl,hw3⟩;have hw4:=hw3.symm;subst hw4;clear hw3 IS;have n14:No (.cells #[.pointer none] 53):=⟨⟩;have b3:=(Below.refl _ w2).alloc (Nat.le_refl _) n14;have t3:=Ah.new w2 n14;have tc:(w2.alloc n14).cell? ⟨w2.heap.size,0,none⟩=some (.pointer none):=t3.c1;have AS:=hid (ZD ⟨r,0,none⟩ ⟨w2.heap.size,0,none⟩ (.pointer none) (w2.alloc n14) (HB2.out.below b3).2.2.1 tc (t3.warm _));have gr:=Xq ⟨r,0,none⟩ w2.heap.size (w2.alloc n14);have gw:w2.grownBy (YQ ⟨r,0,none⟩ ⟨w2.heap.size,0,none⟩ (w2.alloc n14)) none:=⟨gr.os,gr.tape,gr.output,Nat.le_trans b3.size gr.size,fun j hj _=>(gr.block j (Nat.lt_of_lt_of_le hj b3.size) (fun e=>by have:=Option.some.inj e;omega)).trans (b3.block j hj)⟩;have bA:Below w2.heap.size w2 (YQ ⟨r,0,none⟩ ⟨w2.heap.size,0,none⟩ (w2.alloc n14)):=below_grown gw (Nat.le_refl _) (fun j e=>by cases e);have TT:=hid (Zv (e:=⟨r,0,none⟩) t3);have A4:=hid (Af A2.out bA);have H0:=hid (G0.out.below bA);have H2:=hid (G2.out.below bA);have R4:=hid (BR.out.below bA);clear b3 t3 tc gr gw bA;go_wp2_with fail
  refine AS.out.mono ?_;rintro e w4 ⟨rfl,hw4⟩;rw[<-hw4]at TT A4 H0 H2 R4;clear hw4 AS;have EK:Hid (∀args w,(callFunc 16 args).run prog w= .ok (.enter 16 args) w):=hid (enters_of func16 (by kernel_rfl) rfl);have PK:Hid (Calls prog 16 #[.agg #[.slice k.ta k.tn k.tk,.slice k.oa k.on k.ok]] w4.drew fun e w'=>∃v,e= .returned v/\∃(lt:List Ac) (lo:List Ab) (ta oa:Option Addr) (ca co:Nat),v= .agg #[.slice ta lt.length ca,.slice oa lo.length co]/\Bz w' w4.heap.size (.slice ta lt.length ca) (.slice oa lo.length co) lt lo/\Apart lt lo/\k.same (Ck ta ca oa co lt lo)/\Below w4.heap.size w4.drew w'):=hid ((Hb k w4.drew ((HK.out.below A4.out).below (Below.refl _ w4).drew) (KC OK.out)).mono fun e w' hh=>by
   obtain⟨lt,lo,ta,oa,ca,co,rfl,h1,h2,_,h4,h5⟩:=hh;exact⟨_,rfl,lt,lo,ta,oa,ca,co,rfl,h1,h2,h4,h5⟩)
  go_upto_region 6 with fail
  obtain⟨x0,x1⟩:=(show Ah w4.drew w.heap.size _ from H0.out).two;obtain⟨r0,r1⟩:=(show Ah w4.drew (w.heap.size+2) _ from H2.out).two;have rf:=(show Ah w4.drew (w.heap.size+2) _ from H2.out).warm;have t0:w4.drew.cell? ⟨w2.heap.size,0,none⟩=some (.pointer (some ⟨r,0,none⟩)):=Ah.c1 (show Ah w4.drew w2.heap.size _ from TT.out);obtain⟨q0,q1⟩:=(show Ah w4.drew r _ from R4.out).two;have n1:¬r=w.heap.size+1+1:=by omega
  have n2:¬w.heap.size+1+1=r:=by omega
  have n3:¬r=w.heap.size+2:=by omega
  have n4:¬w.heap.size+2=r:=by omega
  have n5:¬w2.heap.size=w.heap.size+1+1:=by omega
  have n6:¬w.heap.size+1+1=w2.heap.size:=by omega
  have n7:¬w2.heap.size=w.heap.size+2:=by omega
  have n8:¬w.heap.size+2=w2.heap.size:=by omega
  go_region_law(refine DI (by rfl) 16 _ _ (by rfl) EK.out _ (by rfl) _ PK.out ?_;rintro v w5 ⟨lt5,lo5,ta,oa,ca,co,rfl,ks,ap,sm,b5⟩;have b5':Below w4.heap.size w4 w5:=Af (Below.refl w4.heap.size w4).drew b5;have K5:=hid ks;have AP5:=hid ap;have SM5:=hid sm;have A5:=hid (Af A4.out b5');have J2:=hid (H2.out.below b5');have JT:=hid (TT.out.below b5');have JR:=hid (R4.out.below b5');obtain⟨u0,u1⟩:=J2.out.two;have uf:=J2.out.warm;have v0:w5.cell? ⟨w2.heap.size,0,none⟩=some (.pointer (some ⟨r,0,none⟩)):=JT.out.c1;obtain⟨m0,m1⟩:=JR.out.two;clear ks ap sm b5 b5')
  all_goals(
   go_wp2;have n17:Nv (.slice ta lt5.length ca):=⟨⟩;have n18:Nv (.slice oa lo5.length co):=⟨⟩;have gq:=GK w5 (w.heap.size+2) n17 n18;have bb:Below w.heap.size w ((w5.setCell ⟨w.heap.size+2,0,none⟩ n17).setCell ⟨w.heap.size+2,1,none⟩ n18):=A5.out.trans (below_grown gq A5.out.size (fun j e=>by have:=Option.some.inj e;omega));have tw:=Yh SM5.out SM.out;have w4l:w.heap.size+2<w4.heap.size:=H2.out.lt;exact bodyPost_ret (Hk _ _ (w.heap.size+2) n17 n18 _ _ ((J2.out.setAt (i:=0) _).setAt (i:=1) _) rfl rfl rfl) rfl ⟨bb,_,_,_,rfl,.inr ⟨OK.out,lt,lo,lt5,lt,lo5,lo,ta,oa,ca,co,SM.out,rfl,(K5.out.f.past gq (by omega)).base (by omega),AP5.out,tw.1,tw.2,DP.out⟩⟩)
 ·have OK:=hid ok;have SM:=hid sm;have KS:=hid (ks.below BB.out);have AP:=hid ap;have SO:=hid so;have DP:=hid dp;have EKV:=hid ekv;clear ekv;have n16:No (.cells #[.slice ga n1 c1,.slice qa n2 c2] 27):=⟨⟩;have IS:=hid (YJ 259 (.pointer (some (E 0))) (w1.alloc n16));clear ok sm ks ap so dp HH;go_wp2_with fail
  generalize w1.alloc n16=w2 at *;refine IS.out.mono ?_;rintro e w3 ⟨rfl,hw3⟩;have hw4:=hw3.symm;subst hw4;clear hw3 IS;have n15:No (.cells #[.pointer none] 53):=⟨⟩;have b3:=(Below.refl _ w2).alloc (Nat.le_refl _) n15;have A4:=hid (Af A2.out b3);have H2:=hid (G2.out.below b3);have H7:=hid (G7.out.below b3);have K4:=hid (KS.out.below b3);have AS:=hid (XW (.iface 55 (.pointer (some ⟨w2.heap.size,0,none⟩))) (w2.alloc n15));clear b3;go_wp2_with fail
  generalize w2.alloc n15=w4 at *;refine AS.out.mono ?_;rintro e w5 ⟨rfl,hw5⟩;have hw6:=hw5.symm;subst hw6;clear hw5 AS;obtain⟨r0,r1⟩:=H2.out.two;have rf:=H2.out.warm;obtain⟨x0,x1⟩:=H7.out.two;go_wp2;have gq:=GK w4 (w.heap.size+2) (.slice ga n1 c1) (.slice qa n2 c2);have bb:Below w.heap.size w ((w4.setCell ⟨w.heap.size+2,0,none⟩ (.slice ga n1 c1)).setCell ⟨w.heap.size+2,1,none⟩ (.slice qa n2 c2)):=A4.out.trans (below_grown gq A4.out.size (fun j e=>by have:=Option.some.inj e;omega));have KF:=(K4.out.past gq s0).base (show w.heap.size<=w0.heap.size by omega);refine bodyPost_ret (Hk _ _ (w.heap.size+2) (.slice ga n1 c1) (.slice qa n2 c2) _ _ ((H2.out.setAt (i:=0) _).setAt (i:=1) _) rfl rfl rfl) rfl ⟨bb,_,_,_,rfl,.inr ⟨OK.out,lt,lo,lt',lt',lo',lo2,some ⟨g,0,none⟩,some ⟨q,0,none⟩,ca,co,SM.out,?_,KF,AP.out,JV.refl _,SO.out,DP.out⟩⟩;exact EKV.out
theorem Ry(k:Aq)(w:World)(hk:k.at w)(ok:AZ k=false)(hw:∀i,i<k.on->(Lit.int .i64 (k.O i).id).wf=true)(s:Al):
 Calls prog 7 #[.agg #[.slice k.ta k.tn k.tk,.slice k.oa k.on k.ok],.agg #[s.th,s.kind,s.id,s.to,s.cat,.string s.data,s.b1,.slice s.c1.a s.c1.n s.c1.k,s.b2,.slice s.c2.a s.c2.n s.c2.k]] w fun e w'=>e= .returned (.tuple #[.agg #[.slice none 0 0,.slice none 0 0],.int .i64 1,.string ⟨#[]⟩])/\Below w w w':=by
 have n1:No (.cells #[s.th,s.kind,s.id,s.to,s.cat,.string s.data,s.b1,.slice s.c1.a s.c1.n s.c1.k,s.b2,.slice s.c2.a s.c2.n s.c2.k] 32):=⟨⟩;have n3:Na #[.slice k.ta k.tn k.tk,.slice k.oa k.on k.ok]:=⟨⟩;have n4:No (.cells #[.slice none 0 0,.slice none 0 0] 27):=⟨⟩;have n2:Nw (((w.alloc (.cells n3 27)).alloc n1).alloc n4):=⟨⟩;have b0:Below w w n2:=(((Below.refl _ w).alloc (Nat.le_refl _) _).alloc (by simp) _).alloc (by simp;omega) _;have A0:Ah n2 w (.cells n3 27):=((Ah.new w _).alloc _).alloc _;have P0:Ah n2 (w.heap.size+1) n1:=by have:=(Ah.new (w.alloc (.cells n3 27)) n1).alloc n4;simpa using this
 have R0:Ah n2 (w.heap.size+1+1) n4:=by have:=Ah.new ((w.alloc (.cells n3 27)).alloc n1) n4;simpa using this
 have HK:=hid hk;have OK:=hid ok;have HB:=hid b0;have HA:=hid A0;have HP:=hid P0;have HR:=hid R0;clear b0 A0 P0 R0 hk ok;go_enter func7,ntmps7
 obtain⟨x0,x1⟩:=HA.out.two;obtain⟨s0,s1,s2,s3,s4,s5,s6,s7,s8,s9⟩:=HP.out.ten;go_wp2_with fail
 clear x0 x1 s0 s1 s2 s3 s4 s5 s6 s7 s8 s9;have S0:=hid HB.out.size;generalize (n2:World)=V at *;have C1:Hid (Calls prog 17 #[.agg n3] V fun e w'=>e= .returned (.bool false)/\Below V V w'):=hid (by
  have h:=Ij k V (HK.out.below HB) hw;rw[OK.out]at h;exact h)
 refine C1.out.mono ?_;rintro e w1 ⟨rfl,hb1⟩;have B1:=hid hb1;have L1:=hid (Af HB hb1);clear hb1;have RB:=hid (HR.out.below B1);obtain⟨r0,r1⟩:=RB.out.two;have rf:=RB.out.warm;go_wp2;refine bodyPost_ret (Aj _ _ (w.heap.size+1+1) 4 _ _ _ _ Tryz.results7 ((RB.out.setAt (i:=0) _).setAt (i:=1) _) rfl rfl rfl) rfl ⟨rfl,?_⟩;exact(L1.out.setCell (by dsimp only;omega) _).setCell (by dsimp only;omega) _
theorem Sk.of_nm{l m:List Ac}(h:Sk (l.map Ac.nm) (m.map Ac.nm)):Sk l m:=
 ⟨by simpa using h.1,fun j hj=>by
   have e:=h.2 j (by simpa using hj);rw[Xw,Xw]at e;exact e⟩
theorem Q4.of_nm{l m:List Ab}(h:Q4 (l.map Ab.nm) (m.map Ab.nm)):Q4 l m:=
 ⟨by simpa using h.1,fun j hj=>by
   have e:=h.2 j (by simpa using hj);rw[GN,GN]at e;exact e⟩
theorem Xb{x y z:Ac}(a:x.same y)(b:x.same z):y.nm=z.nm:=by
 obtain⟨a1,a2,a3,a4,a5,a6,a7⟩:=a;obtain⟨b1,b2,b3,b4,b5,b6,b7⟩:=b;unfold Ac.nm Av.nm AI.nm;rw[a1,b1,a2,b2,a3.1,b3.1,a3.2.1,b3.2.1,a3.2.2,b3.2.2,a4,b4,a5.1,b5.1,a5.2.1,b5.2.1,a5.2.2,b5.2.2,a6.1,b6.1,a6.2,b6.2,a7,b7]
theorem Xj{x y z:Ab}(a:x.same y)(b:x.same z):y.nm=z.nm:=by
 obtain⟨a1,a2,a3,a4,a5,a6,a7,a8,a9,a10⟩:=a;obtain⟨b1,b2,b3,b4,b5,b6,b7,b8,b9,b10⟩:=b;unfold Ab.nm Av.nm AI.nm As.nm;rw[a1,b1,a2,b2,a3,b3,a4,b4,a5.1,b5.1,a5.2.1,b5.2.1,a5.2.2,b5.2.2,a6,b6,a7.1,b7.1,a7.2,b7.2,a8.1,b8.1,a8.2,b8.2,a9,b9,a10.1,b10.1,a10.2.1,b10.2.1,a10.2.2,b10.2.2]
theorem QR{l m:List Ac}(e:m.length=l.length)(h:∀j,j<l.length->(AY l j).nm=(AY m j).nm):l.map Ac.nm=m.map Ac.nm:=by
 refine List.ext_getElem (by simp[e]) fun j h1 h2=>?_;simp only[List.length_map]at h1 h2;have:=h j h1;rw[List.getElem_map,List.getElem_map];unfold AY at this;rw[List.getD_eq_getElem?_getD,List.getD_eq_getElem?_getD,List.getElem?_eq_getElem h1,List.getElem?_eq_getElem h2]at this;exact this
theorem Rp{l m:List Ab}(e:m.length=l.length)(h:∀j,j<l.length->(Aa l j).nm=(Aa m j).nm):l.map Ab.nm=m.map Ab.nm:=by
 refine List.ext_getElem (by simp[e]) fun j h1 h2=>?_;simp only[List.length_map]at h1 h2;have:=h j h1;rw[List.getElem_map,List.getElem_map];unfold Aa at this;rw[List.getD_eq_getElem?_getD,List.getD_eq_getElem?_getD,List.getElem?_eq_getElem h1,List.getElem?_eq_getElem h2]at this;exact this
theorem Wr{k:Aq}{lt lt2:List Ac}{lo lo2:List Ab}(h:k.same (Ck none 0 none 0 lt lo))(h2:k.same (Ck none 0 none 0 lt2 lo2)):lt.map Ac.nm=lt2.map Ac.nm/\lo.map Ab.nm=lo2.map Ab.nm:=by
 refine⟨QR (h2.1.trans h.1.symm) fun j hj=>?_,Rp (h2.2.2.1.trans h.2.2.1.symm) fun j hj=>?_⟩
 ·have hj':j<k.tn:=by have e:lt.length=k.tn:=h.1;omega
  exact Xb (h.2.1 j hj') (h2.2.1 j hj')
 ·have hj':j<k.on:=by have e:lo.length=k.on:=h.2.2.1;omega
  exact Xj (h.2.2.2 j hj') (h2.2.2.2 j hj')
theorem Ta{k:Aq}{s:Al}{lt lt2 lt' lt2':List Ac}{lo lo2 lo' lo2':List Ab}{c c2:Int}{tx tx2:ByteArray}(h:k.same (Ck none 0 none 0 lt lo))(h2:k.same (Ck none 0 none 0 lt2 lo2))(p:FM lt lo s c tx lt' lo')(p2:FM lt2 lo2 s c2 tx2 lt2' lo2'):Ur c c2 tx tx2 lt' lt2' lo' lo2':=by
 obtain⟨et,eo⟩:=Wr h h2;have ea:PN lt s.th=PN lt2 s.th:=by rw[<-Ub lt,<-Ub lt2,et]
 have s1:Sk lt lt2:= .of_nm (by rw[et];exact .refl _);have s2:Q4 lo lo2:= .of_nm (by rw[eo];exact .refl _);cases p with
 |form a hc ht e1 e2=>
  cases p2 with
  |form a' hc' ht' e1' e2'=>exact⟨hc'.trans hc.symm,ht'.trans ht.symm,by rw[e1,e1'];exact s1,by rw[e2,e2'];exact s2⟩
  |thread a'=>rw[a]at a';cases a'
  |act a'=>rw[a]at a';cases a'
 |thread a hn hc ht e1 e2=>
  cases p2 with
  |form a'=>rw[a]at a';cases a'
  |thread a' hn' hc' ht' e1' e2'=>exact⟨hc'.trans hc.symm,ht'.trans ht.symm,by rw[e1,e1'];exact s1,by rw[e2,e2'];exact s2⟩
  |act a' t ht' hn' p2=>rw[<-ea,hn]at hn';cases hn'
 |act a t ht hn p=>
  cases p2 with
  |form a'=>rw[a]at a';cases a'
  |thread a' hn'=>rw[<-ea,hn]at hn';cases hn'
  |act a' t' ht' hn' p2=>
   rw[<-ea,hn]at hn';cases hn';have q:=Ww p;have q2:=Ww p2;have ex:lt[t].nm=lt2[t].nm:=by
    have e:(lt.map Ac.nm)[t]? =(lt2.map Ac.nm)[t]?:=(by rw[et]);rw[List.getElem?_map,List.getElem?_map,List.getElem?_eq_getElem ht,List.getElem?_eq_getElem ht']at e;exact Option.some.inj e
   rw[<-ex,<-et,<-eo]at q2;obtain⟨z1,z2,z3,z4⟩:=Vw q q2;exact⟨z1,z2,.of_nm z3,.of_nm z4⟩
theorem Sk.after{l m n:List Ac}(h:JV l m)(h2:Sk m n):Sk l n:=⟨h2.1.trans h.1,fun j hj=>by
 have e:=h2.2 j (by rw[h.1];exact hj);obtain⟨a1,a2,a3,a4,a5,a6,a7⟩:=h.2 j hj;obtain⟨b1,b2,b3,b4,b5,b6,b7⟩:=e;exact⟨b1.trans a1,b2.trans a2,⟨b3.1.trans a3.1,fun i hi=>⟨(b3.2 i (by rw[a3.1];exact hi)).1.trans (by rw[a3.2.1]),(b3.2 i (by rw[a3.1];exact hi)).2.trans (by rw[a3.2.2])⟩⟩,b4.trans a4,⟨b5.1.trans a5.1,fun i hi=>⟨(b5.2 i (by rw[a5.1];exact hi)).1.trans (by rw[a5.2.1]),(b5.2 i (by rw[a5.1];exact hi)).2.trans (by rw[a5.2.2])⟩⟩,⟨b6.1.trans a6.1,fun i hi=>(b6.2 i (by rw[a6.1];exact hi)).trans (by rw[a6.2])⟩,b7.trans a7⟩⟩
theorem Q4.after{l m n:List Ab}(h:Jb l m)(h2:Q4 m n):Q4 l n:=⟨h2.1.trans h.1,fun j hj=>by
 have e:=h2.2 j (by rw[h.1];exact hj);obtain⟨a1,a2,a3,a4,a5,a6,a7,a8,a9,a10⟩:=h.2 j hj;obtain⟨b1,b2,b3,b4,b5,b6,b7,b8,b9,b10⟩:=e;exact⟨b1.trans a1,b2.trans a2,b3.trans a3,b4.trans a4,⟨b5.1.trans a5.1,fun i hi=>⟨(b5.2 i (by rw[a5.1];exact hi)).1.trans (by rw[a5.2.1]),(b5.2 i (by rw[a5.1];exact hi)).2.trans (by rw[a5.2.2])⟩⟩,b6.trans a6,⟨b7.1.trans a7.1,fun i hi=>(b7.2 i (by rw[a7.1];exact hi)).trans (by rw[a7.2])⟩,⟨b8.1.trans a8.1,fun i hi=>(b8.2 i (by rw[a8.1];exact hi)).trans (by rw[a8.2])⟩,b9.trans a9,⟨b10.1.trans a10.1,fun i hi=>⟨(b10.2 i (by rw[a10.1];exact hi)).1.trans (by rw[a10.2.1]),(b10.2 i (by rw[a10.1];exact hi)).2.trans (by rw[a10.2.2])⟩⟩⟩⟩
def Al.same(s t:Al):Prop:=t.th=s.th/\t.kind=s.kind/\t.id=s.id/\t.to=s.to/\t.cat=s.cat/\t.data=s.data/\t.b1=s.b1/\s.c1.same t.c1/\t.b2=s.b2/\s.c2.same t.c2
theorem UY{s t:Al}{lt lt':List Ac}{lo lo':List Ab}{c:Int}{tx:ByteArray}(e:s.same t)(h:FM lt lo t c tx lt' lo'):FM lt lo s c tx lt' lo':=by
 obtain⟨s1,s2,s3,s4,s5,s6,s7,⟨sa,sn,sk,sf,sg⟩,s9,⟨ra,rn,rk,rf,rg⟩⟩:=s;obtain⟨t1,t2,t3,t4,t5,t6,t7,⟨ta,tn,tk,tf,tg⟩,t9,⟨ua,un,uk,uf,ug⟩⟩:=t;obtain⟨e1,e2,e3,e4,e5,e6,e7,⟨f1,f2,f3⟩,e9,⟨g1,g2,g3⟩⟩:=e;dsimp only at e1 e2 e3 e4 e5 e6 e7 f1 f2 f3 e9 g1 g2 g3;subst e1 e2 e3 e4 e5 e6 e7 f1 f2 f3 e9 g1 g2 g3;cases h with
 |form a b c d e=>exact .form a b c d e
 |thread a b c d e f=>exact .thread a b c d e f
 |act a t ht hn p=>
  refine .act a t ht hn ?_;cases p with
  |k1 h x e1 e2 p=>exact .k1 h x e1 e2 p
  |k12 h x e1 e2 e3 p=>exact .k12 h x e1 e2 e3 p
  |k14 h x e1 e2 e3 p=>exact .k14 h x e1 e2 e3 p
  |make h p=>exact .make h p
  |drop h e1 e3 p=>exact .drop h e1 e3 p
  |k6 h p=>exact .k6 h p
  |k7 h p=>exact .k7 h p
  |k8 h p=>exact .k8 h p
  |k9 h p=>exact .k9 h p
  |k10 h p=>exact .k10 h p
  |k13 h p=>exact .k13 h p
  |k15 h p=>exact .k15 h p
def Fj(k:Aq)(s:Al)(c:Int)(tx:ByteArray)(lt:List Ac)(lo:List Ab):Prop:=
 (AZ k=false/\c=1/\tx=⟨#[]⟩/\lt=[]/\lo=[])∨
 (AZ k=true/\∃(H9:List Ac) (MF:List Ab) (lt2:List Ac) (lo2:List Ab),k.same (Ck none 0 none 0 H9 MF)/\JV lt lt2/\Jb lo lo2/\FM H9 MF s c tx lt2 lo2)
theorem Fj.of{k l:Aq}{s t:Al}{c:Int}{tx:ByteArray}{lt:List Ac}{lo:List Ab}(hk:k.same l)(hs:s.same t)(h:Fj l t c tx lt lo):Fj k s c tx lt lo:=by
 have e:=Cc hk;rcases h with⟨a,b⟩|⟨a,H9,MF,lt2,lo2,b,x,y,d⟩
 ·exact .inl ⟨e▸a,b⟩
 ·refine .inr ⟨e▸a,H9,MF,lt2,lo2,?_,x,y,UY hs d⟩;obtain⟨h1,h2,h3,h4⟩:=hk;refine⟨b.1.trans h1,fun j hj=>?_,b.2.2.1.trans h3,fun j hj=>?_⟩
  ·obtain⟨a1,a2,a3,a4,a5,a6,a7⟩:=h2 j hj;obtain⟨b1,b2,b3,b4,b5,b6,b7⟩:=b.2.1 j (by rw[h1];exact hj);exact⟨b1.trans a1,b2.trans a2,⟨b3.1.trans a3.1,b3.2.1.trans a3.2.1,b3.2.2.trans a3.2.2⟩,b4.trans a4,⟨b5.1.trans a5.1,b5.2.1.trans a5.2.1,b5.2.2.trans a5.2.2⟩,⟨b6.1.trans a6.1,b6.2.trans a6.2⟩,b7.trans a7⟩
  ·obtain⟨a1,a2,a3,a4,a5,a6,a7,a8,a9,a10⟩:=h4 j hj;obtain⟨b1,b2,b3,b4,b5,b6,b7,b8,b9,b10⟩:=b.2.2.2 j (by rw[h3];exact hj);exact⟨b1.trans a1,b2.trans a2,b3.trans a3,b4.trans a4,⟨b5.1.trans a5.1,b5.2.1.trans a5.2.1,b5.2.2.trans a5.2.2⟩,b6.trans a6,⟨b7.1.trans a7.1,b7.2.trans a7.2⟩,⟨b8.1.trans a8.1,b8.2.trans a8.2⟩,b9.trans a9,⟨b10.1.trans a10.1,b10.2.1.trans a10.2.1,b10.2.2.trans a10.2.2⟩⟩
theorem Sk.flip{l m:List Ac}(h:Sk l m):Sk m l:=⟨h.1.symm,fun j hj=>by
 obtain⟨a1,a2,a3,a4,a5,a6,a7⟩:=h.2 j (by rw[<-h.1];exact hj);exact⟨a1.symm,a2.symm,⟨a3.1.symm,fun i hi=>⟨(a3.2 i (by rw[<-a3.1];exact hi)).1.symm,(a3.2 i (by rw[<-a3.1];exact hi)).2.symm⟩⟩,a4.symm,⟨a5.1.symm,fun i hi=>⟨(a5.2 i (by rw[<-a5.1];exact hi)).1.symm,(a5.2 i (by rw[<-a5.1];exact hi)).2.symm⟩⟩,⟨a6.1.symm,fun i hi=>(a6.2 i (by rw[<-a6.1];exact hi)).symm⟩,a7.symm⟩⟩
theorem Q4.flip{l m:List Ab}(h:Q4 l m):Q4 m l:=⟨h.1.symm,fun j hj=>by
 obtain⟨a1,a2,a3,a4,a5,a6,a7,a8,a9,a10⟩:=h.2 j (by rw[<-h.1];exact hj);exact⟨a1.symm,a2.symm,a3.symm,a4.symm,⟨a5.1.symm,fun i hi=>⟨(a5.2 i (by rw[<-a5.1];exact hi)).1.symm,(a5.2 i (by rw[<-a5.1];exact hi)).2.symm⟩⟩,a6.symm,⟨a7.1.symm,fun i hi=>(a7.2 i (by rw[<-a7.1];exact hi)).symm⟩,⟨a8.1.symm,fun i hi=>(a8.2 i (by rw[<-a8.1];exact hi)).symm⟩,a9.symm,⟨a10.1.symm,fun i hi=>⟨(a10.2 i (by rw[<-a10.1];exact hi)).1.symm,(a10.2 i (by rw[<-a10.1];exact hi)).2.symm⟩⟩⟩⟩
theorem RO{k:Aq}{s:Al}{c c2:Int}{tx tx2:ByteArray}{lt lt2:List Ac}{lo lo2:List Ab}(h:Fj k s c tx lt lo)(h2:Fj k s c2 tx2 lt2 lo2):Ur c c2 tx tx2 lt lt2 lo lo2:=by
 rcases h with⟨a,rfl,rfl,rfl,rfl⟩|⟨a,x1,x2,x3,x4,x5,x6,x7,x8⟩<;>rcases h2 with⟨b,rfl,rfl,rfl,rfl⟩|⟨b,y1,y2,y3,y4,y5,y6,y7,y8⟩
 ·exact Bb
 ·rw[a]at b;cases b
 ·rw[a]at b;cases b
 ·obtain⟨z1,z2,z3,z4⟩:=Ta x5 y5 x8 y8;exact⟨z1,z2,(Sk.after y6 (Sk.after x6 z3).flip).flip,(Q4.after y7 (Q4.after x7 z4).flip).flip⟩
theorem Fj.okL{k:Aq}{s:Al}{c:Int}{tx:ByteArray}{lt:List Ac}{lo:List Ab}(h:Fj k s c tx lt lo):(lt=[]/\lo=[])∨okL lt lo=true:=by
 rcases h with⟨_,_,_,e1,e2⟩|⟨a,H9,MF,lt2,lo2,b,x,y,d⟩
 ·exact .inl ⟨e1,e2⟩
 ·have o0:Go.Proofs.YtphddbnadcjhgaaGreatDoor.okL H9 MF=true:=(Cc b).trans a;have o2:=JI o0 d;exact .inr ((Cc (k:=Ck none 0 none 0 lt lo) (l:=Ck none 0 none 0 lt2 lo2) ⟨x.1,x.2,y.1,y.2⟩).symm.trans o2)
def To(k:Aq)(s:Al)(w:World)(e:Ending)(w':World):Prop:=
 ∃(lt:List Ac) (lo:List Ab) (ta oa:Option Addr) (ca co:Nat) (c:Int) (tx:ByteArray),e= .returned (.tuple #[.agg #[.slice ta lt.length ca,.slice oa lo.length co],.int .i64 c,.string tx])/\Hs w' w (.slice ta lt.length ca) (.slice oa lo.length co) lt lo/\Apart lt lo/\Fj k s c tx lt lo/\Below w w w'
theorem QM(w:World)(B:Nat):Hs w B (.slice none 0 0) (.slice none 0 0) [] []:=
 ⟨⟨rfl,.inl ⟨rfl,rfl⟩⟩,⟨rfl,.inl ⟨rfl,rfl⟩⟩,fun x hx=>(by cases hx),fun x hx=>(by cases hx)⟩
theorem Wa.ans{k:Aq}{s:Al}{w w':World}{e:Ending}(h:Wa k s w e w'):To k s w e w':=by
 obtain⟨b,kv,c,tx,rfl,⟨n,rfl,rfl,rfl⟩|⟨ok,lt,lo,lt',lt2,lo',lo2,ta,oa,ca,co,sm,rfl,ks,ap,x,y,d⟩⟩:=h
 ·exact⟨[],[],none,none,0,0,1,⟨#[]⟩,rfl,QM _ _,.nil,.inl ⟨n,rfl,rfl,rfl,rfl⟩,b⟩
 ·exact⟨lt',lo',ta,oa,ca,co,c,tx,rfl,ks,ap,.inr ⟨ok,lt,lo,lt2,lo2,sm,x,y,d⟩,b⟩
def ZB(k:Aq)(s:Al)(w:World)(e:Ending)(w':World):Prop:=
 ∃(lt:List Ac) (lo:List Ab) (ta oa:Option Addr) (ca co:Nat) (c:Int) (tx:ByteArray),e= .returned (.tuple #[.agg #[.slice ta lt.length ca,.slice oa lo.length co],.int .i64 c,.string tx])/\Hs w' w (.slice ta lt.length ca) (.slice oa lo.length co) lt lo/\Fj k s c tx lt lo/\Below w w w'
theorem TE(k:Aq)(w:World)(hk:k.at w)(hw:∀i,i<k.on->(Lit.int .i64 (k.O i).id).wf=true)(s:Al)(hs:s.at w):
 Calls prog 7 #[.agg #[.slice k.ta k.tn k.tk,.slice k.oa k.on k.ok],.agg #[s.th,s.kind,s.id,s.to,s.cat,.string s.data,s.b1,.slice s.c1.a s.c1.n s.c1.k,s.b2,.slice s.c2.a s.c2.n s.c2.k]] w fun e w'=>ZB k s w e w':=by
 cases ok:AZ k with
 |false=>
  refine(Ry k w hk ok hw s).mono ?_;rintro e w' ⟨rfl,b⟩;exact⟨[],[],none,none,0,0,1,⟨#[]⟩,rfl,QM _ _,.inl ⟨ok,rfl,rfl,rfl,rfl⟩,b⟩
 |true=>
  refine(La k w hk ok s hs).mono ?_;rintro e w' ⟨lt,lo,lt',lo',ta,ca,oa,co,c,tx,rfl,ks,b,sm,d⟩;exact⟨lt',lo',ta,oa,ca,co,c,tx,rfl,ks.f,.inr ⟨ok,lt,lo,lt',lo',sm,JV.refl _,⟨rfl,fun _ _=>⟨rfl,rfl,rfl,rfl,⟨rfl,rfl,rfl⟩,rfl,⟨rfl,rfl⟩,⟨rfl,rfl⟩,rfl,⟨rfl,rfl,rfl⟩⟩⟩,d⟩,b⟩
theorem We(ta:Option Addr)(ca:Nat)(oa:Option Addr)(co:Nat)(lt:List Ac)(lo:List Ab):(Ck ta ca oa co lt lo).same (Ck none 0 none 0 lt lo):=
 ⟨rfl,fun _ _=>FR _,rfl,fun _ _=>Ab.same.refl _⟩
theorem Fj.right{k:Aq}{s:Al}{c:Int}{tx:ByteArray}{lt:List Ac}{lo:List Ab}(h:Fj k s c tx lt lo)(hc:c≠1):AZ k=true/\Go.Proofs.YtphddbnadcjhgaaGreatDoor.okL lt lo=true:=by
 rcases h with⟨_,e,_⟩|⟨a,H9,MF,lt2,lo2,b,x,y,d⟩
 ·exact(hc e).elim
 ·have o0:Go.Proofs.YtphddbnadcjhgaaGreatDoor.okL H9 MF=true:=(Cc b).trans a;have o2:=JI o0 d;exact⟨a,(Cc (k:=Ck none 0 none 0 lt lo) (l:=Ck none 0 none 0 lt2 lo2) ⟨x.1,x.2,y.1,y.2⟩).symm.trans o2⟩
theorem ar{x:Int}(h:Qx x):(Lit.int .i64 x).wf=true:=by
 have e1:IntKind.i64.min= -9223372036854775808:=by decide
 have e2:IntKind.i64.max=9223372036854775807:=by decide
 simp[Lit.wf,e1,e2];unfold Qx at h;omega
theorem Hs.at{w:World}{B ca co:Nat}{ta oa:Option Addr}{lt:List Ac}{lo:List Ab}(h:Hs w B (.slice ta lt.length ca) (.slice oa lo.length co) lt lo)(f:NZ lt lo):(Ck ta ca oa co lt lo).at w:=
 ⟨Nat.le_trans f.tn.2 (by unfold maxLen;omega),Nat.le_trans f.on.2 (by unfold maxLen;omega),h.t.lies (fun x hx=>(h.tn x hx).at),h.o.lies (fun x hx=>(h.on x hx).at (f.data x hx))⟩
theorem NZ.wf{lt:List Ac}{lo:List Ab}(f:NZ lt lo):∀i,i<lo.length->(Lit.int .i64 (Aa lo i).id).wf=true/\(Lit.int .i64 (Aa lo i).up).wf=true:=fun i hi=>by
 have h:=f.o _ (List.getElem_mem hi);rw[AW hi];exact⟨MH h.2.1,ar h.2.2⟩
theorem NZ.small{lt:List Ac}{lo:List Ab}(f:NZ lt lo)(ta oa:Option Addr)(ca co:Nat):(Ck ta ca oa co lt lo).small:=⟨⟨by show lt.length<=1048576;have:=f.tn.2;omega,fun i hi=>by
 have hi':i<lt.length:=hi;show(AY lt i).small;rw[Eu hi'];exact f.t _ (List.getElem_mem hi')⟩,by show lo.length<=1048576;have:=f.on.2;omega,fun i hi=>by
 have hi':i<lo.length:=hi;show(Aa lo i).small;rw[AW hi'];exact(f.o _ (List.getElem_mem hi')).1⟩
structure Kn(B:Nat)(W:World)(lt:List Ac)(lo:List Ab)(ta oa:Option Addr)(ca co:Nat):Prop where
 st:Hs W B (.slice ta lt.length ca) (.slice oa lo.length co) lt lo
 f:NZ lt lo
theorem Kn.below{B:Nat}{W W':World}{lt:List Ac}{lo:List Ab}{ta oa:Option Addr}{ca co:Nat}(h:Kn B W lt lo ta oa ca co)(hb:Below W.heap.size W W'):Kn B W' lt lo ta oa ca co:=⟨h.st.below hb,h.f⟩
theorem Kn.cap{B:Nat}{W:World}{lt:List Ac}{lo:List Ab}{ta oa:Option Addr}{ca co:Nat}(h:Kn B W lt lo ta oa ca co):lo.length<=co:=(Ep h.st.o).1
def Vx(W:World)(E:Nat->Addr):Prop:=Mp W E/\Xp W E/\TZ W
theorem Vx.below{W W':World}{E:Nat->Addr}(h:Vx W E)(hb:Below W.heap.size W W'):Vx W' E:=⟨h.1.below (by have:=h.2.1.2.2.2;omega) hb,h.2.1.below hb,h.2.2.below hb⟩
section
variable {B:Nat}{W:World}{lt:List Ac}{lo:List Ab}{ta oa:Option Addr}{ca co:Nat} (h:Kn B W lt lo ta oa ca co)
include h
theorem Kn.done{E:Nat->Addr}{s:Al}(hr:WC E s)(hs:s.at W)(v:Vx W E):Calls prog 6 #[.agg #[.slice ta lt.length ca,.slice oa lo.length co],.agg #[.int .i64 s.th,.int .i64 s.kind,.int .i64 s.id,.int .i64 s.to,.int .i64 s.cat,.string s.data,.int .i64 s.b1,.slice s.c1.a s.c1.n s.c1.k,.int .i64 s.b2,.slice s.c2.a s.c2.n s.c2.k]] W fun e w'=>To (Ck ta ca oa co lt lo) s W e w':=
 (Qm E (Ck ta ca oa co lt lo) s hr W (h.st.at h.f) hs h.cap h.f.wf v.1 v.2.1 v.2.2).mono fun _ _ d=>d.ans
theorem Kn.spec{s:Al}(hs:s.at W):Calls prog 7 #[.agg #[.slice ta lt.length ca,.slice oa lo.length co],.agg #[.int .i64 s.th,.int .i64 s.kind,.int .i64 s.id,.int .i64 s.to,.int .i64 s.cat,.string s.data,.int .i64 s.b1,.slice s.c1.a s.c1.n s.c1.k,.int .i64 s.b2,.slice s.c2.a s.c2.n s.c2.k]] W fun e w'=>ZB (Ck ta ca oa co lt lo) s W e w':=
 TE (Ck ta ca oa co lt lo) W (h.st.at h.f) (fun i hi=>(h.f.wf i hi).1) s hs
theorem Kn.obj{x:Int}(hx:(Lit.int .i64 x).wf=true):Calls prog 8 #[.agg #[.slice ta lt.length ca,.slice oa lo.length co],.int .i64 x] W fun e w'=>Kz (Ck ta ca oa co lt lo) x W w' e:=
 KY (Ck ta ca oa co lt lo) x W (h.st.at h.f) (h.f.small ta oa ca co) h.cap h.f.wf hx
end
end Go.Proofs.YtphddbnadcjhgaaGreatDoor
