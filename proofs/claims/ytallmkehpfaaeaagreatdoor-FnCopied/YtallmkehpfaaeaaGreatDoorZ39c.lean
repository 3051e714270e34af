import Derived.Test.YtallmkehpfaaeaaGreatDoorZ31c
import Derived.Test.YtallmkehpfaaeaaGreatDoorDWVc
import Derived.Test.YtallmkehpfaaeaaGreatDoorZ21c
import Derived.Test.YtallmkehpfaaeaaGreatDoorZ29c
import Derived.Test.YtallmkehpfaaeaaGreatDoorZ27c
import Derived.Test.YtallmkehpfaaeaaGreatDoorZ3c
import Derived.Test.YtallmkehpfaaeaaGreatDoorZ36c
set_option maxRecDepth 100000
set_option maxHeartbeats 16000000
namespace Go.Proofs.YtallmkehpfaaeaaGreatDoor
open Go Go.RowKit Go.Deep Go.Extern.Stop Go.Stop Go.Extern Go.Proofs.Tryz
theorem Ue(t:Addr)(w:World):(ReflectliteValue.unpack (.iface 68 (.pointer (some t)))).run prog w
 = .ok (.agg #[.pointer (some ⟨18,68,none⟩),.pointer (some ⟨w,0,none⟩),.int .u64 150]) (w.alloc (.cells #[.pointer (some t)] 68)):=by kernel_rfl
theorem X2(a:Addr)(w:World):(ReflectliteValue.methodAny (ReflectliteValue.valueError "reflectlite.Value.Type" 0) (fun t _ _ _=>ReflectliteType.toType t) #[.agg #[.pointer (some ⟨18,68,none⟩),.pointer (some a),.int .u64 150]]).run prog w
 = .ok (.iface 156 (.agg #[.pointer (some ⟨18,68,none⟩)])) w:=by kernel_rfl
theorem W6(h:Value)(w:World):(Go.method 395 156 (.agg #[h]) "Kind").run prog w= .ok (229,h) w:=by kernel_rfl
theorem VA(w:World):((ReflectliteType.abiMethod fun t=>(fun a:Nat=>Value.int IntKind.u8 (a:Int))<$>Rtype.kind t) #[.pointer (some ⟨18,68,none⟩)]).run prog w= .ok (.int .u8 22) w:=by kernel_rfl
theorem Vw(w:World):((ReflectliteType.abiMethod fun t=>(fun a:Nat=>Value.int IntKind.u8 (a:Int))<$>Rtype.kind t) #[.pointer (some ⟨18,66,none⟩)]).run prog w= .ok (.int .u8 22) w:=by kernel_rfl
theorem PI(z:Sem Value)(f:TypeId->Addr->Nat->Nat->Sem Value)(v:Value):
 ReflectliteValue.method z f #[v]=(do match <-ReflectliteValue.parts v with|none=>z|some (t,a,fl)=>f t a fl (fl%32)):=rfl
theorem NJ(a:Addr)(w:World):(ReflectliteValue.parts (.agg #[.pointer (some ⟨18,68,none⟩),.pointer (some a),.int .u64 150])).run prog w= .ok (some (68,a,150)) w:=by kernel_rfl
theorem Wt(a p:Addr)(W:World)(ha:W.cell? a=some (.pointer (some p))):
 (ReflectliteValue.method (ReflectliteValue.valueError "reflectlite.Value.IsNil" 0) ReflectliteValue.isNil #[.agg #[.pointer (some ⟨18,68,none⟩),.pointer (some a),.int .u64 150]]).run prog W= .ok (.bool false) W:=by
 rw[PI];simp only[Sem.run_bind,NJ,Result.andThen];simp[ReflectliteValue.isNil,loadVar,isAgg,underlying,underlying68,ha,Result.andThen]
theorem Wu(h:Value)(w:World):(Go.method 395 156 (.agg #[h]) "Elem").run prog w= .ok (242,.agg #[h]) w:=by kernel_rfl
theorem WW(h:Value)(w:World):(Go.method 395 156 (.agg #[h]) "Implements").run prog w= .ok (243,.agg #[h]) w:=by kernel_rfl
theorem X4(h:Value)(w:World):(Go.method 395 156 (.agg #[h]) "AssignableTo").run prog w= .ok (240,.agg #[h]) w:=by kernel_rfl
theorem Xx(w:World):(ReflectliteType.method ReflectliteType.elem #[.agg #[.pointer (some ⟨18,68,none⟩)]]).run prog w= .ok (.iface 156 (.agg #[.pointer (some ⟨18,66,none⟩)])) w:=by kernel_rfl
theorem X9(w:World):(ReflectliteType.relation "Implements" ReflectliteType.implements_ #[.agg #[.pointer (some ⟨18,66,none⟩)],.iface 156 (.agg #[.pointer (some ⟨18,62,none⟩)])]).run prog w= .ok (.bool true) w:=by kernel_rfl
theorem Vn(v:Value)(w:World):(ReflectliteType.typeOf #[.iface 66 v]).run prog w= .ok (.iface 156 (.agg #[.pointer (some ⟨18,66,none⟩)])) w:=by kernel_rfl
theorem YD(w:World):(ReflectliteType.relation "AssignableTo" ReflectliteType.assignableTo #[.agg #[.pointer (some ⟨18,66,none⟩)],.iface 156 (.agg #[.pointer (some ⟨18,66,none⟩)])]).run prog w= .ok (.bool true) w:=by kernel_rfl
theorem Qs(e:Addr)(w:World):(ReflectliteValue.unpack (.iface 66 (.pointer (some e)))).run prog w
 = .ok (.agg #[.pointer (some ⟨18,66,none⟩),.pointer (some ⟨w,0,none⟩),.int .u64 150]) (w.alloc (.cells #[.pointer (some e)] 66)):=by kernel_rfl
theorem Wq(w:World):(Rtype.elem? 68).run prog w= .ok (some 66) w:=by kernel_rfl
theorem YY(p:Addr)(w:World):(ReflectliteValue.mk 66 p ReflectliteValue.flagAddr).run prog w= .ok (.agg #[.pointer (some ⟨18,66,none⟩),.pointer (some p),.int .u64 406]) w:=by kernel_rfl
theorem WB(a p:Addr)(W:World)(ha:W.cell? a=some (.pointer (some p))):
 (ReflectliteValue.method (ReflectliteValue.valueError "reflectlite.Value.Elem" 0) ReflectliteValue.elem #[.agg #[.pointer (some ⟨18,68,none⟩),.pointer (some a),.int .u64 150]]).run prog W
   = .ok (.agg #[.pointer (some ⟨18,66,none⟩),.pointer (some p),.int .u64 406]) W:=by
 rw[PI];simp only[Sem.run_bind,NJ,Result.andThen];simp[ReflectliteValue.elem,loadVar,isAgg,underlying,underlying68,ha,Result.andThen,Wq,YY]
theorem Q4(a:Addr)(w:World):(ReflectliteValue.parts (.agg #[.pointer (some ⟨18,66,none⟩),.pointer (some a),.int .u64 406])).run prog w= .ok (some (66,a,406)) w:=by kernel_rfl
theorem Ts(a:Addr)(w:World):(ReflectliteValue.parts (.agg #[.pointer (some ⟨18,66,none⟩),.pointer (some a),.int .u64 150])).run prog w= .ok (some (66,a,150)) w:=by kernel_rfl
theorem Vd(w:World):(Rtype.directlyAssignable 66 66).run prog w= .ok true w:=by kernel_rfl
theorem Wl(v x:Value)(h1:Value->Value->Sem Value)(h2:Array Value->Sem Value):ReflectliteValue.set.match_3 (fun _=>Sem Value) #[v,x] h1 h2=h1 v x:=rfl
theorem YG(ta b e:Addr)(old:Value)(W:World)(hb:W.cell? b=some (.pointer (some e)))(ht:W.cell? ta=some old)(hf:W.frozen? ta=false):
 (ReflectliteValue.set #[.agg #[.pointer (some ⟨18,66,none⟩),.pointer (some ta),.int .u64 406],.agg #[.pointer (some ⟨18,66,none⟩),.pointer (some b),.int .u64 150]]).run prog W
   = .ok (.tuple #[]) (W.setCell ta (.pointer (some e))):=by
 delta ReflectliteValue.set;rw[Wl];simp only[Sem.run_bind,Q4,Ts,Result.andThen];simp[ReflectliteValue.flagAddr,loadVar,isAgg,underlying,underlying66,hb,Result.andThen,Vd,storeVar,Value.cells,storeCells,Addr.add];rw[run_store prog W ta _ _ (by rfl)];simp[ht,hf]
def Xi(e t:Addr)(w:World):World:=((((w.alloc (.cells #[.pointer (some t)] 68)).alloc (.cells #[.pointer (some ⟨18,68,none⟩),.pointer (some ⟨w,0,none⟩),.int .u64 150] 128)).alloc (.cells #[.pointer (some ⟨18,68,none⟩),.pointer (some ⟨w,0,none⟩),.int .u64 150] 128)).alloc (.cells #[.pointer (some e)] 66)).setCell t (.pointer (some e))
theorem XT(e t:Addr)(old:Value)(w:World)(hg:w.cell? ⟨3,0,none⟩=some (.iface 156 (.agg #[.pointer (some ⟨18,62,none⟩)])))(ht0:w.cell? t=some old)(hf0:w.frozen? t=false):
 Calls prog 33 #[.iface 66 (.pointer (some e)),.iface 68 (.pointer (some t))] w fun ev w'=>ev= .returned (.bool true)/\w'=Xi e t w:=by
 have h60:=@run_callFunc_extern prog 73 _ (fun args=>ReflectliteValue.unpack (args.getD 0 (.tuple #[]))) func73 (by kernel_rfl) (by kernel_rfl) (by kernel_rfl) (by kernel_rfl);have h61:=@run_callFunc_extern prog 74 _ (ReflectliteValue.methodAny (ReflectliteValue.valueError "reflectlite.Value.Type" 0) (fun t _ _ _=>ReflectliteType.toType t)) func74 (by kernel_rfl) (by kernel_rfl) (by kernel_rfl) (by kernel_rfl);have h62:=@run_callFunc_extern prog 75 _ (ReflectliteValue.method (ReflectliteValue.valueError "reflectlite.Value.IsNil" 0) ReflectliteValue.isNil) func75 (by kernel_rfl) (by kernel_rfl) (by kernel_rfl) (by kernel_rfl);have h243:=@run_callFunc_extern prog 229 _ (ReflectliteType.abiMethod fun t=>do pure (.int .u8 (<-Rtype.kind t))) func229 (by kernel_rfl) (by kernel_rfl) (by kernel_rfl) (by kernel_rfl);have h254:=@run_callFunc_extern prog 242 _ (ReflectliteType.method ReflectliteType.elem) func242 (by kernel_rfl) (by kernel_rfl) (by kernel_rfl) (by kernel_rfl);have h255:=@run_callFunc_extern prog 243 _ (ReflectliteType.relation "Implements" ReflectliteType.implements_) func243 (by kernel_rfl) (by kernel_rfl) (by kernel_rfl) (by kernel_rfl);have h58:=@run_callFunc_extern prog 71 _ ReflectliteType.typeOf func71 (by kernel_rfl) (by kernel_rfl) (by kernel_rfl) (by kernel_rfl);have h252:=@run_callFunc_extern prog 240 _ (ReflectliteType.relation "AssignableTo" ReflectliteType.assignableTo) func240 (by kernel_rfl) (by kernel_rfl) (by kernel_rfl) (by kernel_rfl);have h116:=@run_callFunc_extern prog 110 _ (ReflectliteValue.method (ReflectliteValue.valueError "reflectlite.Value.Elem" 0) ReflectliteValue.elem) func110 (by kernel_rfl) (by kernel_rfl) (by kernel_rfl) (by kernel_rfl);have h117:=@run_callFunc_extern prog 111 _ ReflectliteValue.set func111 (by kernel_rfl) (by kernel_rfl) (by kernel_rfl) (by kernel_rfl);have l1:=Vn;have l2:=X4;have l3:=YD;have l4:=Qs;have l5:=Ue;have l6:=X2;have l7:=W6;have l8:=Wu;have l9:=WW;have l10:=VA;have l11:=Vw;have l12:=Xx;have l13:=X9;have n1:No (.cells #[.pointer (some ⟨18,68,none⟩),.pointer (some ⟨w,0,none⟩),.int .u64 150] 128):=⟨⟩;have n2:Nw ((w.alloc (.cells #[.pointer (some t)] 68)).alloc n1):=⟨⟩;have n8:=Wt ⟨w,0,none⟩ t n2 (by simp);have hlt:3<w.heap.size:=by
  rcases Nat.lt_or_ge 3 w with h|h
  ·exact h
  ·simp[World.cell?,Array.getElem?_eq_none h]at hg
 have hg2:(n2:World).cell? ⟨3,0,none⟩=some (.iface 156 (.agg #[.pointer (some ⟨18,62,none⟩)])):=by
  rw[World.cell?_alloc_lt _ _ ⟨3,0,none⟩ (by simp;omega),World.cell?_alloc_lt _ _ ⟨3,0,none⟩ hlt];exact hg
 have htl:t.block<w.heap.size:=by
  rcases Nat.lt_or_ge t.block w with h|h
  ·exact h
  ·simp[World.cell?,Array.getElem?_eq_none h]at ht0
 have el:=WB ⟨w,0,none⟩ t ((n2:World).alloc n1) (by rw[World.cell?_alloc_lt _ _ ⟨w,0,none⟩ (by simp;omega)];simp);have st:=YG t ⟨w.heap.size+1+1+1,0,none⟩ e old (((n2:World).alloc n1).alloc (.cells #[.pointer (some e)] 66))
  (by rw[World.cell?_alloc_at _ _ _ _ (by simp)];rfl)
  (by rw[World.cell?_alloc_lt _ _ t (by simp;omega),World.cell?_alloc_lt _ _ t (by simp;omega),World.cell?_alloc_lt _ _ t (by simp;omega),World.cell?_alloc_lt _ _ t htl];exact ht0)
  (by rw[World.frozen?_alloc_old _ _ t (by simp;omega),World.frozen?_alloc_old _ _ t (by simp;omega),World.frozen?_alloc_old _ _ t (by simp;omega),World.frozen?_alloc_old _ _ t (Nat.ne_of_lt htl)];exact hf0)
 unfold Xi;go_enter func33,ntmps33
 go_wp2;refine wp_loop_rounds 1 ?_;rw[rounds_succ];go_wp2;go_ret;exact⟨rfl,rfl⟩
open Go.Maps Go.BigFrame Go.Shelf
def Vz(w:World)(E:Nat->Addr):Prop:=(∀i,i<14->i≠3->i≠0->E i≠E 0)/\(∀i,i<14->i≠3->∃ca ta,w.heap[(E i).block]? =some (.cells ca ta (0,0)))/\w.cell? ⟨3,0,none⟩=some (.iface 156 (.agg #[.pointer (some ⟨18,62,none⟩)]))/\17<w.heap.size
theorem Vz.below{w w':World}{E:Nat->Addr}(h:Vz w E)(hb:Below w w w'):Vz w' E:=by
 refine⟨h.1,fun i h1 h2=>?_,?_,Nat.lt_of_lt_of_le h.2.2.2 hb.size⟩
 ·obtain⟨ca,ta,hc⟩:=h.2.1 i h1 h2;exact⟨ca,ta,(hb.block _ (Array.getElem?_eq_some_iff.1 hc).1).trans hc⟩
 ·exact(hb.cell (p:=⟨3,0,none⟩) (by have:=h.2.2.2;show 3<_;omega)).trans h.2.2.1
theorem Vb(e:Addr)(tb:Nat)(w:World):w.grownBy (Xi e ⟨tb,0,none⟩ w) (some tb):=by
 unfold Xi;refine Bg (Rj ⟨rfl,rfl,rfl,Nat.le_refl _,fun _ _ _=>rfl⟩ ?_) _ _;exact((((Below.refl _ w).alloc (Nat.le_refl _) _).alloc (by simp) _).alloc (by simp;omega) _).alloc (by simp;omega) _
theorem Xz{e:Addr}{tb:Nat}{w:World}(h:Ah w tb (.cells #[.pointer none] 66)):Ah (Xi e ⟨tb,0,none⟩ w) tb (.cells #[.pointer (some e)] 66):=by
 unfold Xi;exact((((h.alloc _).alloc _).alloc _).alloc _).setAt (i:=0) _
theorem Ah.c1{W:World}{P t:Nat}{x:Value}(h:Ah W P (.cells #[x] t)):W.cell? ⟨P,0,none⟩=some x:=by
 unfold Ah at h;simp[World.cell?,h]
def I3(l l2:List Ae):Prop:=l2.length=l.length/\∀j,j<l.length->(AY l j).same (AY l2 j)
theorem I3.refl(l:List Ae):I3 l l:=⟨rfl,fun _ _=>Fz _⟩
def VY(k:Av)(s:Al)(w:World)(e:Ending)(w':World):Prop:=
 Below w w w'/\∃(kv:Value) (c:Int) (tx:ByteArray),e= .returned (.tuple #[kv,.int .i64 c,.string tx])/\
 ((Bo k=false/\kv= .agg #[.slice none 0 0,.slice none 0 0]/\c=1/\tx=⟨#[]⟩)∨
  (Bo k=true/\∃(lt:List Ae) (lo:List Ab) (lt' lt2:List Ae) (lo' lo2:List Ab) (ta oa:Option Addr) (ca co:Nat),k.same (Cl none 0 none 0 lt lo)/\kv= .agg #[.slice ta lt'.length ca,.slice oa lo'.length co]/\GO w' w (.slice ta lt'.length ca) (.slice oa lo'.length co) lt' lo'/\Apart lt' lo'/\I3 lt' lt2/\IF lo' lo2/\FP lt lo s c tx lt2 lo2))
theorem G8(tmps:Array Value)(W:World)(P:Nat)(x y v5 v6:Value)(h:Ah W P (.cells #[x,y] 27))(h4:tmps[4]? =some (.pointer (some ⟨P,0,none⟩)))(h5:tmps[5]? =some v5)(h6:tmps[6]? =some v6):
 (results Tryz.f12 tmps).run prog W= .ok (.tuple #[.agg #[x,y],v5,v6]) W:=by
 obtain⟨z0,z1⟩:=h.two;simp[results,Tryz.results12,go_sem,h4,h5,h6,z0,z1]
theorem WL{k:Av}{lt lt2:List Ae}{lo lo2:List Ab}{ta oa:Option Addr}{ca co:Nat}(h:k.same (Cl ta ca oa co lt lo))(h2:k.same (Cl none 0 none 0 lt2 lo2)):I3 lt lt2/\IF lo lo2:=by
 refine⟨⟨h2.1.trans h.1.symm,fun j hj=>?_⟩,h2.2.2.1.trans h.2.2.1.symm,fun j hj=>?_⟩
 ·have hj':j<k.tn:=by have e:lt.length=k.tn:=h.1;omega
  have a:(k.T j).same (AY lt j):=h.2.1 j hj';have b:(k.T j).same (AY lt2 j):=h2.2.1 j hj';obtain⟨a1,a2,a3,a4,a5,a6,a7⟩:=a;obtain⟨b1,b2,b3,b4,b5,b6,b7⟩:=b;exact⟨b1.trans a1.symm,b2.trans a2.symm,⟨b3.1.trans a3.1.symm,b3.2.1.trans a3.2.1.symm,b3.2.2.trans a3.2.2.symm⟩,b4.trans a4.symm,⟨b5.1.trans a5.1.symm,b5.2.1.trans a5.2.1.symm,b5.2.2.trans a5.2.2.symm⟩,⟨b6.1.trans a6.1.symm,b6.2.trans a6.2.symm⟩,b7.trans a7.symm⟩
 ·have hj':j<k.on:=by have e:lo.length=k.on:=h.2.2.1;omega
  have a:(k.O j).same (Aa lo j):=h.2.2.2 j hj';have b:(k.O j).same (Aa lo2 j):=h2.2.2.2 j hj';obtain⟨a1,a2,a3,a4,a5,a6,a7,a8,a9,a10⟩:=a;obtain⟨b1,b2,b3,b4,b5,b6,b7,b8,b9,b10⟩:=b;exact⟨b1.trans a1.symm,b2.trans a2.symm,b3.trans a3.symm,b4.trans a4.symm,⟨b5.1.trans a5.1.symm,b5.2.1.trans a5.2.1.symm,b5.2.2.trans a5.2.2.symm⟩,b6.trans a6.symm,⟨b7.1.trans a7.1.symm,b7.2.trans a7.2.symm⟩,⟨b8.1.trans a8.1.symm,b8.2.trans a8.2.symm⟩,b9.trans a9.symm,⟨b10.1.trans a10.1.symm,b10.2.1.trans a10.2.1.symm,b10.2.2.trans a10.2.2.symm⟩⟩
theorem Ow(E:Nat->Addr)(k:Av)(s:Al)(hr:VC E s)(w:World)(hk:k.at w)(hs:s.at w)(hcap:k.on<=k.ok)(hw:∀i,i<k.on->(Lit.int .i64 (k.O i).id).wf=true/\(Lit.int .i64 (k.O i).up).wf=true)(he:Mm w E)(hE:Vz w E)(tab:SI w):
 Calls prog 12 #[.agg #[.slice k.ta k.tn k.tk,.slice k.oa k.on k.ok],.agg #[s.th,s.kind,s.id,s.to,s.cat,.string s.data,s.b1,.slice s.c1.a s.c1.n s.c1.k,s.b2,.slice s.c2.a s.c2.n s.c2.k]] w fun e w'=>VY k s w e w':=by
 have n10:No (.cells #[s.th,s.kind,s.id,s.to,s.cat,.string s.data,s.b1,.slice s.c1.a s.c1.n s.c1.k,s.b2,.slice s.c2.a s.c2.n s.c2.k] 32):=⟨⟩;have n13:No (.cells #[.slice k.ta k.tn k.tk,.slice k.oa k.on k.ok] 27):=⟨⟩;have n9:Nw ((w.alloc n13).alloc n10):=⟨⟩;have n11:No (.cells #[.slice none 0 0,.slice none 0 0] 27):=⟨⟩;have b0:Below w w ((n9:World).alloc n11):=(((Below.refl _ w).alloc (Nat.le_refl _) _).alloc (by simp) _).alloc (by simp;omega) _;have f0:Ah ((n9:World).alloc n11) w n13:=((Ah.new w _).alloc _).alloc _;have f1:Ah ((n9:World).alloc n11) (w.heap.size+1) n10:=by
  have h:=(Ah.new (w.alloc n13) n10).alloc n11;rw[show(w.alloc n13).heap.size=w.heap.size+1 from by simp]at h;exact h
 have f2:Ah ((n9:World).alloc n11) (w.heap.size+2) n11:=by
  have h:=Ah.new n9 n11;rw[show(n9:World).heap.size=w.heap.size+2 from by simp]at h;exact h
 have h19:=hE.2.2.2;have h14:14<=w.heap.size:=by omega
 have DN:=hid (Vy E k s hr ((n9:World).alloc n11) (hk.below b0) (hs.below b0) hcap hw (he.below h14 b0) (by have:=b0.size;omega) (tab.below b0));have B0:=hid b0;have F0:=hid f0;have F2:=hid f2;have HK:=hid hk;have HE:=hid he;have HB:=hid hE;obtain⟨x0,x1⟩:=f0.two;obtain⟨y0,y1,y2,y3,y4,y5,y6,y7,y8,y9⟩:=f1.ten;clear b0 f0 f1 f2 hk hs he hE tab hr;go_enter func12,ntmps12
 go_wp2_with fail
 clear x0 x1 y0 y1 y2 y3 y4 y5 y6 y7 y8 y9;generalize ((n9:World).alloc n11)=w0 at *;refine DN.out.mono ?_;rintro e w1 ⟨kv,tx,v,rfl,b1,⟨ga,qa,n1,n2,c1,c2,rfl⟩,hh⟩;have n12:No (.cells #[.slice ga n1 c1,.slice qa n2 c2] 27):=⟨⟩;have b2:=(Below.refl _ w1).alloc (Nat.le_refl _) n12;have AA:=hid (Ag B0.out b1);have A2:=hid (Ag AA.out b2);have G0:=hid ((F0.out.below b1).below b2);have G2:=hid ((F2.out.below b1).below b2);have G7:=hid (Ah.new w1 n12);have BB:=hid b2;have z1:w.heap.size+2<w1.heap.size:=(F2.out.below b1).lt;have e0:=(HE.out.below h14 A2.out 0 (by omega) (by omega)).1;have s0:w.heap.size+2<w0.heap.size:=F2.out.lt;have HH:=hid hh;clear b1 b2 F0 F2 DN hh;rcases HH.out with⟨nk,r,rfl,br⟩|⟨ok,c,lt,lo,told,hc,sm,dp⟩|⟨ok,rfl,lt,lo,lt',lo',lo2,g,ca,q,co,sm,ekv,ks,ap,so,dp⟩
 ·have IS:=hid (Xv r 1 (E 0) (w1.alloc n12) (br.below BB.out));have NK:=hid nk;clear nk br HH;go_wp2_with fail
  generalize w1.alloc n12=w2 at *;refine IS.out.mono ?_;rintro e w3 ⟨rfl,hw3⟩;have hw4:=hw3.symm;subst hw4;clear hw3 IS;obtain⟨r0,r1⟩:=G2.out.two;have rf:=G2.out.warm;go_wp2;have gq:=FU w2 (w.heap.size+2) (.slice none 0 0) (.slice none 0 0);have bb:Below w w ((w2.setCell ⟨w.heap.size+2,0,none⟩ (.slice none 0 0)).setCell ⟨w.heap.size+2,1,none⟩ (.slice none 0 0)):=A2.out.trans (below_grown gq A2.out.size (fun j e=>by have:=Option.some.inj e;omega));exact bodyPost_ret (G8 _ _ (w.heap.size+2) (.slice none 0 0) (.slice none 0 0) _ _ ((G2.out.setAt (i:=0) _).setAt (i:=1) _) rfl rfl rfl) rfl ⟨bb,_,_,_,rfl,.inl ⟨NK.out,rfl,rfl,rfl⟩⟩
 ·rcases told with⟨h0,_⟩|⟨_,r,i,rfl,br,i0,i14,i3,rl⟩
  ·exact absurd h0 hc
  have br2:=br.below BB.out;obtain⟨ca0,ta0,hca⟩:=(HB.out.below A2.out).2.1 i i14 i3;obtain⟨cb0,tb0,hcb⟩:=(HB.out.below A2.out).2.1 0 (by omega) (by omega);have IS:=hid (Xt r c (E i) (E 0) ca0 cb0 ta0 tb0 (w1.alloc n12) br2 (HB.out.1 i i14 i3 i0) hca hcb);have BR:=hid br2;have SM:=hid sm;have DP:=hid dp;have OK:=hid ok;have HB2:=hid (HB.out.below A2.out);have w1l:w1.heap.size<(w1.alloc n12).heap.size:=by simp
  have rlt:r<w1.heap.size:=br.lt;clear hca hcb br br2 sm dp ok HH;go_wp2_with fail
  generalize w1.alloc n12=w2 at *;refine IS.out.mono ?_;rintro e w3 ⟨rfl,hw3⟩;have hw4:=hw3.symm;subst hw4;clear hw3 IS;have n14:No (.cells #[.pointer none] 66):=⟨⟩;have b3:=(Below.refl _ w2).alloc (Nat.le_refl _) n14;have t3:=Ah.new w2 n14;have tc:(w2.alloc n14).cell? ⟨w2,0,none⟩=some (.pointer none):=t3.c1;have AS:=hid (XT ⟨r,0,none⟩ ⟨w2,0,none⟩ (.pointer none) (w2.alloc n14) (HB2.out.below b3).2.2.1 tc (t3.warm _));have gr:=Vb ⟨r,0,none⟩ w2 (w2.alloc n14);have gw:w2.grownBy (Xi ⟨r,0,none⟩ ⟨w2,0,none⟩ (w2.alloc n14)) none:=⟨gr.os,gr.tape,gr.output,Nat.le_trans b3.size gr.size,fun j hj _=>(gr.block j (Nat.lt_of_lt_of_le hj b3.size) (fun e=>by have:=Option.some.inj e;omega)).trans (b3.block j hj)⟩;have bA:Below w2 w2 (Xi ⟨r,0,none⟩ ⟨w2,0,none⟩ (w2.alloc n14)):=below_grown gw (Nat.le_refl _) (fun j e=>by cases e);have TT:=hid (Xz (e:=⟨r,0,none⟩) t3);have A4:=hid (Ag A2.out bA);have H0:=hid (G0.out.below bA);have H2:=hid (G2.out.below bA);have R4:=hid (BR.out.below bA);clear b3 t3 tc gr gw bA;go_wp2_with fail
  refine AS.out.mono ?_;rintro e w4 ⟨rfl,hw4⟩;rw[<-hw4]at TT A4 H0 H2 R4;clear hw4 AS;have EK:Hid (∀args w,(callFunc 34 args).run prog w= .ok (.enter 34 args) w):=hid (enters_of func34 (by kernel_rfl) rfl);have PK:Hid (Calls prog 34 #[.agg #[.slice k.ta k.tn k.tk,.slice k.oa k.on k.ok]] w4.drew fun e w'=>∃v,e= .returned v/\∃(lt:List Ae) (lo:List Ab) (ta oa:Option Addr) (ca co:Nat),v= .agg #[.slice ta lt.length ca,.slice oa lo.length co]/\Bu w' w4 (.slice ta lt.length ca) (.slice oa lo.length co) lt lo/\Apart lt lo/\k.same (Cl ta ca oa co lt lo)/\Below w4 w4.drew w'):=hid ((GK k w4.drew ((HK.out.below A4.out).below (Below.refl _ w4).drew) (JW OK.out)).mono fun e w' hh=>by
   obtain⟨lt,lo,ta,oa,ca,co,rfl,h1,h2,_,h4,h5⟩:=hh;exact⟨_,rfl,lt,lo,ta,oa,ca,co,rfl,h1,h2,h4,h5⟩)
  go_upto_region 6 with fail
  obtain⟨x0,x1⟩:=(show Ah w4.drew w _ from H0.out).two;obtain⟨r0,r1⟩:=(show Ah w4.drew (w.heap.size+2) _ from H2.out).two;have rf:=(show Ah w4.drew (w.heap.size+2) _ from H2.out).warm;have t0:w4.drew.cell? ⟨w2,0,none⟩=some (.pointer (some ⟨r,0,none⟩)):=Ah.c1 (show Ah w4.drew w2 _ from TT.out);obtain⟨q0,q1⟩:=(show Ah w4.drew r _ from R4.out).two;have n1:¬r=w.heap.size+1+1:=by omega
  have n2:¬w.heap.size+1+1=r:=by omega
  have n3:¬r=w.heap.size+2:=by omega
  have n4:¬w.heap.size+2=r:=by omega
  have n5:¬w2.heap.size=w.heap.size+1+1:=by omega
  have n6:¬w.heap.size+1+1=w2.heap.size:=by omega
  have n7:¬w2.heap.size=w.heap.size+2:=by omega
  have n8:¬w.heap.size+2=w2.heap.size:=by omega
  go_region_law(refine Dy (by rfl) 34 _ _ (by rfl) EK.out _ (by rfl) _ PK.out ?_;rintro v w5 ⟨lt5,lo5,ta,oa,ca,co,rfl,ks,ap,sm,b5⟩;have b5':Below w4 w4 w5:=Ag (Below.refl w4 w4).drew b5;have K5:=hid ks;have AP5:=hid ap;have SM5:=hid sm;have A5:=hid (Ag A4.out b5');have J2:=hid (H2.out.below b5');have JT:=hid (TT.out.below b5');have JR:=hid (R4.out.below b5');obtain⟨u0,u1⟩:=J2.out.two;have uf:=J2.out.warm;have v0:w5.cell? ⟨w2,0,none⟩=some (.pointer (some ⟨r,0,none⟩)):=JT.out.c1;obtain⟨m0,m1⟩:=JR.out.two;clear ks ap sm b5 b5')
  all_goals(
   go_wp2;have n17:Nv (.slice ta lt5.length ca):=⟨⟩;have n18:Nv (.slice oa lo5.length co):=⟨⟩;have gq:=FU w5 (w.heap.size+2) n17 n18;have bb:Below w w ((w5.setCell ⟨w.heap.size+2,0,none⟩ n17).setCell ⟨w.heap.size+2,1,none⟩ n18):=A5.out.trans (below_grown gq A5.out.size (fun j e=>by have:=Option.some.inj e;omega));have tw:=WL SM5.out SM.out;have w4l:w.heap.size+2<w4.heap.size:=H2.out.lt;exact bodyPost_ret (G8 _ _ (w.heap.size+2) n17 n18 _ _ ((J2.out.setAt (i:=0) _).setAt (i:=1) _) rfl rfl rfl) rfl ⟨bb,_,_,_,rfl,.inr ⟨OK.out,lt,lo,lt5,lt,lo5,lo,ta,oa,ca,co,SM.out,rfl,(K5.out.f.past gq (by omega)).base (by omega),AP5.out,tw.1,tw.2,DP.out⟩⟩)
 ·have OK:=hid ok;have SM:=hid sm;have KS:=hid (ks.below BB.out);have AP:=hid ap;have SO:=hid so;have DP:=hid dp;have EKV:=hid ekv;clear ekv;have n16:No (.cells #[.slice ga n1 c1,.slice qa n2 c2] 27):=⟨⟩;have IS:=hid (Ww 264 (.pointer (some (E 0))) (w1.alloc n16));clear ok sm ks ap so dp HH;go_wp2_with fail
  generalize w1.alloc n16=w2 at *;refine IS.out.mono ?_;rintro e w3 ⟨rfl,hw3⟩;have hw4:=hw3.symm;subst hw4;clear hw3 IS;have n15:No (.cells #[.pointer none] 66):=⟨⟩;have b3:=(Below.refl _ w2).alloc (Nat.le_refl _) n15;have A4:=hid (Ag A2.out b3);have H2:=hid (G2.out.below b3);have H7:=hid (G7.out.below b3);have K4:=hid (KS.out.below b3);have AS:=hid (WH (.iface 68 (.pointer (some ⟨w2,0,none⟩))) (w2.alloc n15));clear b3;go_wp2_with fail
  generalize w2.alloc n15=w4 at *;refine AS.out.mono ?_;rintro e w5 ⟨rfl,hw5⟩;have hw6:=hw5.symm;subst hw6;clear hw5 AS;obtain⟨r0,r1⟩:=H2.out.two;have rf:=H2.out.warm;obtain⟨x0,x1⟩:=H7.out.two;go_wp2;have gq:=FU w4 (w.heap.size+2) (.slice ga n1 c1) (.slice qa n2 c2);have bb:Below w w ((w4.setCell ⟨w.heap.size+2,0,none⟩ (.slice ga n1 c1)).setCell ⟨w.heap.size+2,1,none⟩ (.slice qa n2 c2)):=A4.out.trans (below_grown gq A4.out.size (fun j e=>by have:=Option.some.inj e;omega));have KF:=(K4.out.past gq s0).base (show w.heap.size<=w0.heap.size by omega);refine bodyPost_ret (G8 _ _ (w.heap.size+2) (.slice ga n1 c1) (.slice qa n2 c2) _ _ ((H2.out.setAt (i:=0) _).setAt (i:=1) _) rfl rfl rfl) rfl ⟨bb,_,_,_,rfl,.inr ⟨OK.out,lt,lo,lt',lt',lo',lo2,some ⟨g,0,none⟩,some ⟨q,0,none⟩,ca,co,SM.out,?_,KF,AP.out,I3.refl _,SO.out,DP.out⟩⟩;exact EKV.out
theorem Qg(k:Av)(w:World)(hk:k.at w)(ok:Bo k=false)(hw:∀i,i<k.on->(Lit.int .i64 (k.O i).id).wf=true)(s:Al):
 Calls prog 13 #[.agg #[.slice k.ta k.tn k.tk,.slice k.oa k.on k.ok],.agg #[s.th,s.kind,s.id,s.to,s.cat,.string s.data,s.b1,.slice s.c1.a s.c1.n s.c1.k,s.b2,.slice s.c2.a s.c2.n s.c2.k]] w fun e w'=>e= .returned (.tuple #[.agg #[.slice none 0 0,.slice none 0 0],.int .i64 1,.string ⟨#[]⟩])/\Below w w w':=by
 have n1:No (.cells #[s.th,s.kind,s.id,s.to,s.cat,.string s.data,s.b1,.slice s.c1.a s.c1.n s.c1.k,s.b2,.slice s.c2.a s.c2.n s.c2.k] 32):=⟨⟩;have n3:Na #[.slice k.ta k.tn k.tk,.slice k.oa k.on k.ok]:=⟨⟩;have n4:No (.cells #[.slice none 0 0,.slice none 0 0] 27):=⟨⟩;have n2:Nw (((w.alloc (.cells n3 27)).alloc n1).alloc n4):=⟨⟩;have b0:Below w w n2:=(((Below.refl _ w).alloc (Nat.le_refl _) _).alloc (by simp) _).alloc (by simp;omega) _;have A0:Ah n2 w (.cells n3 27):=((Ah.new w _).alloc _).alloc _;have P0:Ah n2 (w.heap.size+1) n1:=by have:=(Ah.new (w.alloc (.cells n3 27)) n1).alloc n4;simpa using this
 have R0:Ah n2 (w.heap.size+1+1) n4:=by have:=Ah.new ((w.alloc (.cells n3 27)).alloc n1) n4;simpa using this
 have HK:=hid hk;have OK:=hid ok;have HB:=hid b0;have HA:=hid A0;have HP:=hid P0;have HR:=hid R0;clear b0 A0 P0 R0 hk ok;go_enter func13,ntmps13
 obtain⟨x0,x1⟩:=HA.out.two;obtain⟨s0,s1,s2,s3,s4,s5,s6,s7,s8,s9⟩:=HP.out.ten;go_wp2_with fail
 clear x0 x1 s0 s1 s2 s3 s4 s5 s6 s7 s8 s9;have S0:=hid HB.out.size;generalize (n2:World)=V at *;have C1:Hid (Calls prog 35 #[.agg n3] V fun e w'=>e= .returned (.bool false)/\Below V V w'):=hid (by
  have h:=Kw k V (HK.out.below HB) hw;rw[OK.out]at h;exact h)
 refine C1.out.mono ?_;rintro e w1 ⟨rfl,hb1⟩;have B1:=hid hb1;have L1:=hid (Ag HB hb1);clear hb1;have RB:=hid (HR.out.below B1);obtain⟨r0,r1⟩:=RB.out.two;have rf:=RB.out.warm;go_wp2;refine bodyPost_ret (Aj _ _ (w.heap.size+1+1) 4 _ _ _ _ Tryz.results13 ((RB.out.setAt (i:=0) _).setAt (i:=1) _) rfl rfl rfl) rfl ⟨rfl,?_⟩;exact(L1.out.setCell (by dsimp only;omega) _).setCell (by dsimp only;omega) _
theorem QZ.of_nm{l m:List Ae}(h:QZ (l.map Ae.nm) (m.map Ae.nm)):QZ l m:=
 ⟨by simpa using h.1,fun j hj=>by
   have e:=h.2 j (by simpa using hj);rw[XL,XL]at e;exact e⟩
theorem Qz.of_nm{l m:List Ab}(h:Qz (l.map Ab.nm) (m.map Ab.nm)):Qz l m:=
 ⟨by simpa using h.1,fun j hj=>by
   have e:=h.2 j (by simpa using hj);rw[GM,GM]at e;exact e⟩
theorem UO{x y z:Ae}(a:x.same y)(b:x.same z):y.nm=z.nm:=by
 obtain⟨a1,a2,a3,a4,a5,a6,a7⟩:=a;obtain⟨b1,b2,b3,b4,b5,b6,b7⟩:=b;unfold Ae.nm As.nm AM.nm;rw[a1,b1,a2,b2,a3.1,b3.1,a3.2.1,b3.2.1,a3.2.2,b3.2.2,a4,b4,a5.1,b5.1,a5.2.1,b5.2.1,a5.2.2,b5.2.2,a6.1,b6.1,a6.2,b6.2,a7,b7]
theorem VT{x y z:Ab}(a:x.same y)(b:x.same z):y.nm=z.nm:=by
 obtain⟨a1,a2,a3,a4,a5,a6,a7,a8,a9,a10⟩:=a;obtain⟨b1,b2,b3,b4,b5,b6,b7,b8,b9,b10⟩:=b;unfold Ab.nm As.nm AM.nm Ar.nm;rw[a1,b1,a2,b2,a3,b3,a4,b4,a5.1,b5.1,a5.2.1,b5.2.1,a5.2.2,b5.2.2,a6,b6,a7.1,b7.1,a7.2,b7.2,a8.1,b8.1,a8.2,b8.2,a9,b9,a10.1,b10.1,a10.2.1,b10.2.1,a10.2.2,b10.2.2]
theorem PH{l m:List Ae}(e:m.length=l.length)(h:∀j,j<l.length->(AY l j).nm=(AY m j).nm):l.map Ae.nm=m.map Ae.nm:=by
 refine List.ext_getElem (by simp[e]) fun j h1 h2=>?_;simp only[List.length_map]at h1 h2;have:=h j h1;rw[List.getElem_map,List.getElem_map];unfold AY at this;rw[List.getD_eq_getElem?_getD,List.getD_eq_getElem?_getD,List.getElem?_eq_getElem h1,List.getElem?_eq_getElem h2]at this;exact this
theorem Qx{l m:List Ab}(e:m.length=l.length)(h:∀j,j<l.length->(Aa l j).nm=(Aa m j).nm):l.map Ab.nm=m.map Ab.nm:=by
 refine List.ext_getElem (by simp[e]) fun j h1 h2=>?_;simp only[List.length_map]at h1 h2;have:=h j h1;rw[List.getElem_map,List.getElem_map];unfold Aa at this;rw[List.getD_eq_getElem?_getD,List.getD_eq_getElem?_getD,List.getElem?_eq_getElem h1,List.getElem?_eq_getElem h2]at this;exact this
theorem Wd{k:Av}{lt lt2:List Ae}{lo lo2:List Ab}(h:k.same (Cl none 0 none 0 lt lo))(h2:k.same (Cl none 0 none 0 lt2 lo2)):lt.map Ae.nm=lt2.map Ae.nm/\lo.map Ab.nm=lo2.map Ab.nm:=by
 refine⟨PH (h2.1.trans h.1.symm) fun j hj=>?_,Qx (h2.2.2.1.trans h.2.2.1.symm) fun j hj=>?_⟩
 ·have hj':j<k.tn:=by have e:lt.length=k.tn:=h.1;omega
  exact UO (h.2.1 j hj') (h2.2.1 j hj')
 ·have hj':j<k.on:=by have e:lo.length=k.on:=h.2.2.1;omega
  exact VT (h.2.2.2 j hj') (h2.2.2.2 j hj')
theorem Re{k:Av}{s:Al}{lt lt2 lt' lt2':List Ae}{lo lo2 lo' lo2':List Ab}{c c2:Int}{tx tx2:ByteArray}(h:k.same (Cl none 0 none 0 lt lo))(h2:k.same (Cl none 0 none 0 lt2 lo2))(p:FP lt lo s c tx lt' lo')(p2:FP lt2 lo2 s c2 tx2 lt2' lo2'):Sq c c2 tx tx2 lt' lt2' lo' lo2':=by
 obtain⟨et,eo⟩:=Wd h h2;have ea:Pm lt s.th=Pm lt2 s.th:=by rw[<-Sx lt,<-Sx lt2,et]
 have s1:QZ lt lt2:= .of_nm (by rw[et];exact .refl _);have s2:Qz lo lo2:= .of_nm (by rw[eo];exact .refl _);cases p with
 |form a hc ht e1 e2=>
  cases p2 with
  |form a' hc' ht' e1' e2'=>exact⟨hc'.trans hc.symm,ht'.trans ht.symm,by rw[e1,e1'];exact s1,by rw[e2,e2'];exact s2⟩
  |thread a'=>rw[a]at a';cases a'
  |act a'=>rw[a]at a';cases a'
 |thread a hn hc ht e1 e2=>
  cases p2 with
  |form a'=>rw[a]at a';cases a'
  |thread a' hn' hc' ht' e1' e2'=>exact⟨hc'.trans hc.symm,ht'.trans ht.symm,by rw[e1,e1'];exact s1,by rw[e2,e2'];exact s2⟩
  |act a' t ht' hn' p2=>rw[<-ea,hn]at hn';cases hn'
 |act a t ht hn p=>
  cases p2 with
  |form a'=>rw[a]at a';cases a'
  |thread a' hn'=>rw[<-ea,hn]at hn';cases hn'
  |act a' t' ht' hn' p2=>
   rw[<-ea,hn]at hn';cases hn';have q:=Vj p;have q2:=Vj p2;have ex:lt[t].nm=lt2[t].nm:=by
    have e:(lt.map Ae.nm)[t]? =(lt2.map Ae.nm)[t]?:=(by rw[et]);rw[List.getElem?_map,List.getElem?_map,List.getElem?_eq_getElem ht,List.getElem?_eq_getElem ht']at e;exact Option.some.inj e
   rw[<-ex,<-et,<-eo]at q2;obtain⟨z1,z2,z3,z4⟩:=Tw q q2;exact⟨z1,z2,.of_nm z3,.of_nm z4⟩
theorem QZ.after{l m n:List Ae}(h:I3 l m)(h2:QZ m n):QZ l n:=⟨h2.1.trans h.1,fun j hj=>by
 have e:=h2.2 j (by rw[h.1];exact hj);obtain⟨a1,a2,a3,a4,a5,a6,a7⟩:=h.2 j hj;obtain⟨b1,b2,b3,b4,b5,b6,b7⟩:=e;exact⟨b1.trans a1,b2.trans a2,⟨b3.1.trans a3.1,fun i hi=>⟨(b3.2 i (by rw[a3.1];exact hi)).1.trans (by rw[a3.2.1]),(b3.2 i (by rw[a3.1];exact hi)).2.trans (by rw[a3.2.2])⟩⟩,b4.trans a4,⟨b5.1.trans a5.1,fun i hi=>⟨(b5.2 i (by rw[a5.1];exact hi)).1.trans (by rw[a5.2.1]),(b5.2 i (by rw[a5.1];exact hi)).2.trans (by rw[a5.2.2])⟩⟩,⟨b6.1.trans a6.1,fun i hi=>(b6.2 i (by rw[a6.1];exact hi)).trans (by rw[a6.2])⟩,b7.trans a7⟩⟩
theorem Qz.after{l m n:List Ab}(h:IF l m)(h2:Qz m n):Qz l n:=⟨h2.1.trans h.1,fun j hj=>by
 have e:=h2.2 j (by rw[h.1];exact hj);obtain⟨a1,a2,a3,a4,a5,a6,a7,a8,a9,a10⟩:=h.2 j hj;obtain⟨b1,b2,b3,b4,b5,b6,b7,b8,b9,b10⟩:=e;exact⟨b1.trans a1,b2.trans a2,b3.trans a3,b4.trans a4,⟨b5.1.trans a5.1,fun i hi=>⟨(b5.2 i (by rw[a5.1];exact hi)).1.trans (by rw[a5.2.1]),(b5.2 i (by rw[a5.1];exact hi)).2.trans (by rw[a5.2.2])⟩⟩,b6.trans a6,⟨b7.1.trans a7.1,fun i hi=>(b7.2 i (by rw[a7.1];exact hi)).trans (by rw[a7.2])⟩,⟨b8.1.trans a8.1,fun i hi=>(b8.2 i (by rw[a8.1];exact hi)).trans (by rw[a8.2])⟩,b9.trans a9,⟨b10.1.trans a10.1,fun i hi=>⟨(b10.2 i (by rw[a10.1];exact hi)).1.trans (by rw[a10.2.1]),(b10.2 i (by rw[a10.1];exact hi)).2.trans (by rw[a10.2.2])⟩⟩⟩⟩
def Al.same(s t:Al):Prop:=t.th=s.th/\t.kind=s.kind/\t.id=s.id/\t.to=s.to/\t.cat=s.cat/\t.data=s.data/\t.b1=s.b1/\s.c1.same t.c1/\t.b2=s.b2/\s.c2.same t.c2
theorem Tn{s t:Al}{lt lt':List Ae}{lo lo':List Ab}{c:Int}{tx:ByteArray}(e:s.same t)(h:FP lt lo t c tx lt' lo'):FP lt lo s c tx lt' lo':=by
 obtain⟨s1,s2,s3,s4,s5,s6,s7,⟨sa,sn,sk,sf,sg⟩,s9,⟨ra,rn,rk,rf,rg⟩⟩:=s;obtain⟨t1,t2,t3,t4,t5,t6,t7,⟨ta,tn,tk,tf,tg⟩,t9,⟨ua,un,uk,uf,ug⟩⟩:=t;obtain⟨e1,e2,e3,e4,e5,e6,e7,⟨f1,f2,f3⟩,e9,⟨g1,g2,g3⟩⟩:=e;dsimp only at e1 e2 e3 e4 e5 e6 e7 f1 f2 f3 e9 g1 g2 g3;subst e1 e2 e3 e4 e5 e6 e7 f1 f2 f3 e9 g1 g2 g3;cases h with
 |form a b c d e=>exact .form a b c d e
 |thread a b c d e f=>exact .thread a b c d e f
 |act a t ht hn p=>
  refine .act a t ht hn ?_;cases p with
  |k1 h x e1 e2 p=>exact .k1 h x e1 e2 p
  |k12 h x e1 e2 e3 p=>exact .k12 h x e1 e2 e3 p
  |k14 h x e1 e2 e3 p=>exact .k14 h x e1 e2 e3 p
  |make h p=>exact .make h p
  |drop h e1 e3 p=>exact .drop h e1 e3 p
  |k6 h p=>exact .k6 h p
  |k7 h p=>exact .k7 h p
  |k8 h p=>exact .k8 h p
  |k9 h p=>exact .k9 h p
  |k10 h p=>exact .k10 h p
  |k13 h p=>exact .k13 h p
  |k15 h p=>exact .k15 h p
def Ep(k:Av)(s:Al)(c:Int)(tx:ByteArray)(lt:List Ae)(lo:List Ab):Prop:=
 (Bo k=false/\c=1/\tx=⟨#[]⟩/\lt=[]/\lo=[])∨
 (Bo k=true/\∃(Kj:List Ae) (Nz:List Ab) (lt2:List Ae) (lo2:List Ab),k.same (Cl none 0 none 0 Kj Nz)/\I3 lt lt2/\IF lo lo2/\FP Kj Nz s c tx lt2 lo2)
theorem Ep.of{k l:Av}{s t:Al}{c:Int}{tx:ByteArray}{lt:List Ae}{lo:List Ab}(hk:k.same l)(hs:s.same t)(h:Ep l t c tx lt lo):Ep k s c tx lt lo:=by
 have e:=BU hk;rcases h with⟨a,b⟩|⟨a,Kj,Nz,lt2,lo2,b,x,y,d⟩
 ·exact .inl ⟨e▸a,b⟩
 ·refine .inr ⟨e▸a,Kj,Nz,lt2,lo2,?_,x,y,Tn hs d⟩;obtain⟨h1,h2,h3,h4⟩:=hk;refine⟨b.1.trans h1,fun j hj=>?_,b.2.2.1.trans h3,fun j hj=>?_⟩
  ·obtain⟨a1,a2,a3,a4,a5,a6,a7⟩:=h2 j hj;obtain⟨b1,b2,b3,b4,b5,b6,b7⟩:=b.2.1 j (by rw[h1];exact hj);exact⟨b1.trans a1,b2.trans a2,⟨b3.1.trans a3.1,b3.2.1.trans a3.2.1,b3.2.2.trans a3.2.2⟩,b4.trans a4,⟨b5.1.trans a5.1,b5.2.1.trans a5.2.1,b5.2.2.trans a5.2.2⟩,⟨b6.1.trans a6.1,b6.2.trans a6.2⟩,b7.trans a7⟩
  ·obtain⟨a1,a2,a3,a4,a5,a6,a7,a8,a9,a10⟩:=h4 j hj;obtain⟨b1,b2,b3,b4,b5,b6,b7,b8,b9,b10⟩:=b.2.2.2 j (by rw[h3];exact hj);exact⟨b1.trans a1,b2.trans a2,b3.trans a3,b4.trans a4,⟨b5.1.trans a5.1,b5.2.1.trans a5.2.1,b5.2.2.trans a5.2.2⟩,b6.trans a6,⟨b7.1.trans a7.1,b7.2.trans a7.2⟩,⟨b8.1.trans a8.1,b8.2.trans a8.2⟩,b9.trans a9,⟨b10.1.trans a10.1,b10.2.1.trans a10.2.1,b10.2.2.trans a10.2.2⟩⟩
theorem QZ.flip{l m:List Ae}(h:QZ l m):QZ m l:=⟨h.1.symm,fun j hj=>by
 obtain⟨a1,a2,a3,a4,a5,a6,a7⟩:=h.2 j (by rw[<-h.1];exact hj);exact⟨a1.symm,a2.symm,⟨a3.1.symm,fun i hi=>⟨(a3.2 i (by rw[<-a3.1];exact hi)).1.symm,(a3.2 i (by rw[<-a3.1];exact hi)).2.symm⟩⟩,a4.symm,⟨a5.1.symm,fun i hi=>⟨(a5.2 i (by rw[<-a5.1];exact hi)).1.symm,(a5.2 i (by rw[<-a5.1];exact hi)).2.symm⟩⟩,⟨a6.1.symm,fun i hi=>(a6.2 i (by rw[<-a6.1];exact hi)).symm⟩,a7.symm⟩⟩
theorem Qz.flip{l m:List Ab}(h:Qz l m):Qz m l:=⟨h.1.symm,fun j hj=>by
 obtain⟨a1,a2,a3,a4,a5,a6,a7,a8,a9,a10⟩:=h.2 j (by rw[<-h.1];exact hj);exact⟨a1.symm,a2.symm,a3.symm,a4.symm,⟨a5.1.symm,fun i hi=>⟨(a5.2 i (by rw[<-a5.1];exact hi)).1.symm,(a5.2 i (by rw[<-a5.1];exact hi)).2.symm⟩⟩,a6.symm,⟨a7.1.symm,fun i hi=>(a7.2 i (by rw[<-a7.1];exact hi)).symm⟩,⟨a8.1.symm,fun i hi=>(a8.2 i (by rw[<-a8.1];exact hi)).symm⟩,a9.symm,⟨a10.1.symm,fun i hi=>⟨(a10.2 i (by rw[<-a10.1];exact hi)).1.symm,(a10.2 i (by rw[<-a10.1];exact hi)).2.symm⟩⟩⟩⟩
theorem PG{k:Av}{s:Al}{c c2:Int}{tx tx2:ByteArray}{lt lt2:List Ae}{lo lo2:List Ab}(h:Ep k s c tx lt lo)(h2:Ep k s c2 tx2 lt2 lo2):Sq c c2 tx tx2 lt lt2 lo lo2:=by
 rcases h with⟨a,rfl,rfl,rfl,rfl⟩|⟨a,x1,x2,x3,x4,x5,x6,x7,x8⟩<;>rcases h2 with⟨b,rfl,rfl,rfl,rfl⟩|⟨b,y1,y2,y3,y4,y5,y6,y7,y8⟩
 ·exact AW
 ·rw[a]at b;cases b
 ·rw[a]at b;cases b
 ·obtain⟨z1,z2,z3,z4⟩:=Re x5 y5 x8 y8;exact⟨z1,z2,(QZ.after y6 (QZ.after x6 z3).flip).flip,(Qz.after y7 (Qz.after x7 z4).flip).flip⟩
theorem Ep.okL{k:Av}{s:Al}{c:Int}{tx:ByteArray}{lt:List Ae}{lo:List Ab}(h:Ep k s c tx lt lo):(lt=[]/\lo=[])∨okL lt lo=true:=by
 rcases h with⟨_,_,_,e1,e2⟩|⟨a,Kj,Nz,lt2,lo2,b,x,y,d⟩
 ·exact .inl ⟨e1,e2⟩
 ·have o0:Go.Proofs.YtallmkehpfaaeaaGreatDoor.okL Kj Nz=true:=(BU b).trans a;have o2:=I6 o0 d;exact .inr ((BU (k:=Cl none 0 none 0 lt lo) (l:=Cl none 0 none 0 lt2 lo2) ⟨x.1,x.2,y.1,y.2⟩).symm.trans o2)
def Tq(k:Av)(s:Al)(w:World)(e:Ending)(w':World):Prop:=
 ∃(lt:List Ae) (lo:List Ab) (ta oa:Option Addr) (ca co:Nat) (c:Int) (tx:ByteArray),e= .returned (.tuple #[.agg #[.slice ta lt.length ca,.slice oa lo.length co],.int .i64 c,.string tx])/\GO w' w (.slice ta lt.length ca) (.slice oa lo.length co) lt lo/\Apart lt lo/\Ep k s c tx lt lo/\Below w w w'
theorem Qq(w:World)(B:Nat):GO w B (.slice none 0 0) (.slice none 0 0) [] []:=
 ⟨⟨rfl,.inl ⟨rfl,rfl⟩⟩,⟨rfl,.inl ⟨rfl,rfl⟩⟩,fun x hx=>(by cases hx),fun x hx=>(by cases hx)⟩
theorem VY.ans{k:Av}{s:Al}{w w':World}{e:Ending}(h:VY k s w e w'):Tq k s w e w':=by
 obtain⟨b,kv,c,tx,rfl,⟨n,rfl,rfl,rfl⟩|⟨ok,lt,lo,lt',lt2,lo',lo2,ta,oa,ca,co,sm,rfl,ks,ap,x,y,d⟩⟩:=h
 ·exact⟨[],[],none,none,0,0,1,⟨#[]⟩,rfl,Qq _ _,.nil,.inl ⟨n,rfl,rfl,rfl,rfl⟩,b⟩
 ·exact⟨lt',lo',ta,oa,ca,co,c,tx,rfl,ks,ap,.inr ⟨ok,lt,lo,lt2,lo2,sm,x,y,d⟩,b⟩
def XC(k:Av)(s:Al)(w:World)(e:Ending)(w':World):Prop:=
 ∃(lt:List Ae) (lo:List Ab) (ta oa:Option Addr) (ca co:Nat) (c:Int) (tx:ByteArray),e= .returned (.tuple #[.agg #[.slice ta lt.length ca,.slice oa lo.length co],.int .i64 c,.string tx])/\GO w' w (.slice ta lt.length ca) (.slice oa lo.length co) lt lo/\Ep k s c tx lt lo/\Below w w w'
theorem Q0(k:Av)(w:World)(hk:k.at w)(hw:∀i,i<k.on->(Lit.int .i64 (k.O i).id).wf=true)(s:Al)(hs:s.at w):
 Calls prog 13 #[.agg #[.slice k.ta k.tn k.tk,.slice k.oa k.on k.ok],.agg #[s.th,s.kind,s.id,s.to,s.cat,.string s.data,s.b1,.slice s.c1.a s.c1.n s.c1.k,s.b2,.slice s.c2.a s.c2.n s.c2.k]] w fun e w'=>XC k s w e w':=by
 cases ok:Bo k with
 |false=>
  refine(Qg k w hk ok hw s).mono ?_;rintro e w' ⟨rfl,b⟩;exact⟨[],[],none,none,0,0,1,⟨#[]⟩,rfl,Qq _ _,.inl ⟨ok,rfl,rfl,rfl,rfl⟩,b⟩
 |true=>
  refine(Kc k w hk ok s hs).mono ?_;rintro e w' ⟨lt,lo,lt',lo',ta,ca,oa,co,c,tx,rfl,ks,b,sm,d⟩;exact⟨lt',lo',ta,oa,ca,co,c,tx,rfl,ks.f,.inr ⟨ok,lt,lo,lt',lo',sm,I3.refl _,⟨rfl,fun _ _=>⟨rfl,rfl,rfl,rfl,⟨rfl,rfl,rfl⟩,rfl,⟨rfl,rfl⟩,⟨rfl,rfl⟩,rfl,⟨rfl,rfl,rfl⟩⟩⟩,d⟩,b⟩
theorem Vx(ta:Option Addr)(ca:Nat)(oa:Option Addr)(co:Nat)(lt:List Ae)(lo:List Ab):(Cl ta ca oa co lt lo).same (Cl none 0 none 0 lt lo):=
 ⟨rfl,fun _ _=>Fz _,rfl,fun _ _=>Ab.same.refl _⟩
theorem Ep.right{k:Av}{s:Al}{c:Int}{tx:ByteArray}{lt:List Ae}{lo:List Ab}(h:Ep k s c tx lt lo)(hc:c≠1):Bo k=true/\Go.Proofs.YtallmkehpfaaeaaGreatDoor.okL lt lo=true:=by
 rcases h with⟨_,e,_⟩|⟨a,Kj,Nz,lt2,lo2,b,x,y,d⟩
 ·exact(hc e).elim
 ·have o0:Go.Proofs.YtallmkehpfaaeaaGreatDoor.okL Kj Nz=true:=(BU b).trans a;have o2:=I6 o0 d;exact⟨a,(BU (k:=Cl none 0 none 0 lt lo) (l:=Cl none 0 none 0 lt2 lo2) ⟨x.1,x.2,y.1,y.2⟩).symm.trans o2⟩
end Go.Proofs.YtallmkehpfaaeaaGreatDoor
