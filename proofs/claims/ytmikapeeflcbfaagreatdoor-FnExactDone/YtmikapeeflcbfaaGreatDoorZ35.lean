import Derived.Test.YtmikapeeflcbfaaGreatDoorZ14
import Derived.Test.YtmikapeeflcbfaaGreatDoorDWV
import Derived.Test.YtmikapeeflcbfaaGreatDoorZ28
import Derived.Test.YtmikapeeflcbfaaGreatDoorKB10
set_option maxRecDepth 100000
set_option maxHeartbeats 16000000
namespace Go.Proofs.YtmikapeeflcbfaaGreatDoor
open Go Go.RowKit Go.Deep Go.Extern.Stop Go.Stop Go.Extern Go.Proofs.Tryz
theorem Wk(t:Addr)(w:World):(ReflectliteValue.unpack (.iface 65 (.pointer (some t)))).run prog w
 = .ok (.agg #[.pointer (some ⟨18,65,none⟩),.pointer (some ⟨w,0,none⟩),.int .u64 150]) (w.alloc (.cells #[.pointer (some t)] 65)):=by kernel_rfl
theorem ZJ(a:Addr)(w:World):(ReflectliteValue.methodAny (ReflectliteValue.valueError "reflectlite.Value.Type" 0) (fun t _ _ _=>ReflectliteType.toType t) #[.agg #[.pointer (some ⟨18,65,none⟩),.pointer (some a),.int .u64 150]]).run prog w
 = .ok (.iface 165 (.agg #[.pointer (some ⟨18,65,none⟩)])) w:=by kernel_rfl
theorem Yz(h:Value)(w:World):(Go.method 422 165 (.agg #[h]) "Kind").run prog w= .ok (243,h) w:=by kernel_rfl
theorem XS(w:World):((ReflectliteType.abiMethod fun t=>(fun a:Nat=>Value.int IntKind.u8 (a:Int))<$>Rtype.kind t) #[.pointer (some ⟨18,65,none⟩)]).run prog w= .ok (.int .u8 22) w:=by kernel_rfl
theorem X6(w:World):((ReflectliteType.abiMethod fun t=>(fun a:Nat=>Value.int IntKind.u8 (a:Int))<$>Rtype.kind t) #[.pointer (some ⟨18,63,none⟩)]).run prog w= .ok (.int .u8 22) w:=by kernel_rfl
theorem RX(z:Sem Value)(f:TypeId->Addr->Nat->Nat->Sem Value)(v:Value):
 ReflectliteValue.method z f #[v]=(do match <-ReflectliteValue.parts v with|none=>z|some (t,a,fl)=>f t a fl (fl%32)):=rfl
theorem Pk(a:Addr)(w:World):(ReflectliteValue.parts (.agg #[.pointer (some ⟨18,65,none⟩),.pointer (some a),.int .u64 150])).run prog w= .ok (some (65,a,150)) w:=by kernel_rfl
theorem Yo(a p:Addr)(W:World)(ha:W.cell? a=some (.pointer (some p))):
 (ReflectliteValue.method (ReflectliteValue.valueError "reflectlite.Value.IsNil" 0) ReflectliteValue.isNil #[.agg #[.pointer (some ⟨18,65,none⟩),.pointer (some a),.int .u64 150]]).run prog W= .ok (.bool false) W:=by
 rw[RX];simp only[Sem.run_bind,Pk,Result.andThen];simp[ReflectliteValue.isNil,loadVar,isAgg,underlying,underlying65,ha,Result.andThen]
theorem YG(h:Value)(w:World):(Go.method 422 165 (.agg #[h]) "Elem").run prog w= .ok (254,.agg #[h]) w:=by kernel_rfl
theorem Y2(h:Value)(w:World):(Go.method 422 165 (.agg #[h]) "Implements").run prog w= .ok (255,.agg #[h]) w:=by kernel_rfl
theorem ZZ(h:Value)(w:World):(Go.method 422 165 (.agg #[h]) "AssignableTo").run prog w= .ok (252,.agg #[h]) w:=by kernel_rfl
theorem ZK(w:World):(ReflectliteType.method ReflectliteType.elem #[.agg #[.pointer (some ⟨18,65,none⟩)]]).run prog w= .ok (.iface 165 (.agg #[.pointer (some ⟨18,63,none⟩)])) w:=by kernel_rfl
theorem ZH(w:World):(ReflectliteType.relation "Implements" ReflectliteType.implements_ #[.agg #[.pointer (some ⟨18,63,none⟩)],.iface 165 (.agg #[.pointer (some ⟨18,59,none⟩)])]).run prog w= .ok (.bool true) w:=by kernel_rfl
theorem WX(v:Value)(w:World):(ReflectliteType.typeOf #[.iface 63 v]).run prog w= .ok (.iface 165 (.agg #[.pointer (some ⟨18,63,none⟩)])) w:=by kernel_rfl
theorem aQ(w:World):(ReflectliteType.relation "AssignableTo" ReflectliteType.assignableTo #[.agg #[.pointer (some ⟨18,63,none⟩)],.iface 165 (.agg #[.pointer (some ⟨18,63,none⟩)])]).run prog w= .ok (.bool true) w:=by kernel_rfl
theorem QZ(e:Addr)(w:World):(ReflectliteValue.unpack (.iface 63 (.pointer (some e)))).run prog w
 = .ok (.agg #[.pointer (some ⟨18,63,none⟩),.pointer (some ⟨w,0,none⟩),.int .u64 150]) (w.alloc (.cells #[.pointer (some e)] 63)):=by kernel_rfl
theorem YR(w:World):(Rtype.elem? 65).run prog w= .ok (some 63) w:=by kernel_rfl
theorem cr(p:Addr)(w:World):(ReflectliteValue.mk 63 p ReflectliteValue.flagAddr).run prog w= .ok (.agg #[.pointer (some ⟨18,63,none⟩),.pointer (some p),.int .u64 406]) w:=by kernel_rfl
theorem YV(a p:Addr)(W:World)(ha:W.cell? a=some (.pointer (some p))):
 (ReflectliteValue.method (ReflectliteValue.valueError "reflectlite.Value.Elem" 0) ReflectliteValue.elem #[.agg #[.pointer (some ⟨18,65,none⟩),.pointer (some a),.int .u64 150]]).run prog W
   = .ok (.agg #[.pointer (some ⟨18,63,none⟩),.pointer (some p),.int .u64 406]) W:=by
 rw[RX];simp only[Sem.run_bind,Pk,Result.andThen];simp[ReflectliteValue.elem,loadVar,isAgg,underlying,underlying65,ha,Result.andThen,YR,cr]
theorem Ui(a:Addr)(w:World):(ReflectliteValue.parts (.agg #[.pointer (some ⟨18,63,none⟩),.pointer (some a),.int .u64 406])).run prog w= .ok (some (63,a,406)) w:=by kernel_rfl
theorem Wy(a:Addr)(w:World):(ReflectliteValue.parts (.agg #[.pointer (some ⟨18,63,none⟩),.pointer (some a),.int .u64 150])).run prog w= .ok (some (63,a,150)) w:=by kernel_rfl
theorem Xy(w:World):(Rtype.directlyAssignable 63 63).run prog w= .ok true w:=by kernel_rfl
theorem Yj(v x:Value)(h1:Value->Value->Sem Value)(h2:Array Value->Sem Value):ReflectliteValue.set.match_3 (fun _=>Sem Value) #[v,x] h1 h2=h1 v x:=rfl
theorem aY(ta b e:Addr)(old:Value)(W:World)(hb:W.cell? b=some (.pointer (some e)))(ht:W.cell? ta=some old)(hf:W.frozen? ta=false):
 (ReflectliteValue.set #[.agg #[.pointer (some ⟨18,63,none⟩),.pointer (some ta),.int .u64 406],.agg #[.pointer (some ⟨18,63,none⟩),.pointer (some b),.int .u64 150]]).run prog W
   = .ok (.tuple #[]) (W.setCell ta (.pointer (some e))):=by
 delta ReflectliteValue.set;rw[Yj];simp only[Sem.run_bind,Ui,Wy,Result.andThen];simp[ReflectliteValue.flagAddr,loadVar,isAgg,underlying,underlying63,hb,Result.andThen,Xy,storeVar,Value.cells,storeCells,Addr.add];rw[run_store prog W ta _ _ (by rfl)];simp[ht,hf]
def Zi(e t:Addr)(w:World):World:=((((w.alloc (.cells #[.pointer (some t)] 65)).alloc (.cells #[.pointer (some ⟨18,65,none⟩),.pointer (some ⟨w,0,none⟩),.int .u64 150] 114)).alloc (.cells #[.pointer (some ⟨18,65,none⟩),.pointer (some ⟨w,0,none⟩),.int .u64 150] 114)).alloc (.cells #[.pointer (some e)] 63)).setCell t (.pointer (some e))
theorem aB(e t:Addr)(old:Value)(w:World)(hg:w.cell? ⟨3,0,none⟩=some (.iface 165 (.agg #[.pointer (some ⟨18,59,none⟩)])))(ht0:w.cell? t=some old)(hf0:w.frozen? t=false):
 Calls prog 25 #[.iface 63 (.pointer (some e)),.iface 65 (.pointer (some t))] w fun ev w'=>ev= .returned (.bool true)/\w'=Zi e t w:=by
 have h60:=@run_callFunc_extern prog 60 _ (fun args=>ReflectliteValue.unpack (args.getD 0 (.tuple #[]))) func60 (by kernel_rfl) (by kernel_rfl) (by kernel_rfl) (by kernel_rfl);have h61:=@run_callFunc_extern prog 61 _ (ReflectliteValue.methodAny (ReflectliteValue.valueError "reflectlite.Value.Type" 0) (fun t _ _ _=>ReflectliteType.toType t)) func61 (by kernel_rfl) (by kernel_rfl) (by kernel_rfl) (by kernel_rfl);have h62:=@run_callFunc_extern prog 62 _ (ReflectliteValue.method (ReflectliteValue.valueError "reflectlite.Value.IsNil" 0) ReflectliteValue.isNil) func62 (by kernel_rfl) (by kernel_rfl) (by kernel_rfl) (by kernel_rfl);have h243:=@run_callFunc_extern prog 243 _ (ReflectliteType.abiMethod fun t=>do pure (.int .u8 (<-Rtype.kind t))) func243 (by kernel_rfl) (by kernel_rfl) (by kernel_rfl) (by kernel_rfl);have h254:=@run_callFunc_extern prog 254 _ (ReflectliteType.method ReflectliteType.elem) func254 (by kernel_rfl) (by kernel_rfl) (by kernel_rfl) (by kernel_rfl);have h255:=@run_callFunc_extern prog 255 _ (ReflectliteType.relation "Implements" ReflectliteType.implements_) func255 (by kernel_rfl) (by kernel_rfl) (by kernel_rfl) (by kernel_rfl);have h58:=@run_callFunc_extern prog 58 _ ReflectliteType.typeOf func58 (by kernel_rfl) (by kernel_rfl) (by kernel_rfl) (by kernel_rfl);have h252:=@run_callFunc_extern prog 252 _ (ReflectliteType.relation "AssignableTo" ReflectliteType.assignableTo) func252 (by kernel_rfl) (by kernel_rfl) (by kernel_rfl) (by kernel_rfl);have h116:=@run_callFunc_extern prog 116 _ (ReflectliteValue.method (ReflectliteValue.valueError "reflectlite.Value.Elem" 0) ReflectliteValue.elem) func116 (by kernel_rfl) (by kernel_rfl) (by kernel_rfl) (by kernel_rfl);have h117:=@run_callFunc_extern prog 117 _ ReflectliteValue.set func117 (by kernel_rfl) (by kernel_rfl) (by kernel_rfl) (by kernel_rfl);have l1:=WX;have l2:=ZZ;have l3:=aQ;have l4:=QZ;have l5:=Wk;have l6:=ZJ;have l7:=Yz;have l8:=YG;have l9:=Y2;have l10:=XS;have l11:=X6;have l12:=ZK;have l13:=ZH;have n1:No (.cells #[.pointer (some ⟨18,65,none⟩),.pointer (some ⟨w,0,none⟩),.int .u64 150] 114):=⟨⟩;have n2:Nw ((w.alloc (.cells #[.pointer (some t)] 65)).alloc n1):=⟨⟩;have n8:=Yo ⟨w,0,none⟩ t n2 (by simp);have hlt:3<w.heap.size:=by
  rcases Nat.lt_or_ge 3 w with h|h
  ·exact h
  ·simp[World.cell?,Array.getElem?_eq_none h]at hg
 have hg2:(n2:World).cell? ⟨3,0,none⟩=some (.iface 165 (.agg #[.pointer (some ⟨18,59,none⟩)])):=by
  rw[World.cell?_alloc_lt _ _ ⟨3,0,none⟩ (by simp;omega),World.cell?_alloc_lt _ _ ⟨3,0,none⟩ hlt];exact hg
 have htl:t.block<w.heap.size:=by
  rcases Nat.lt_or_ge t.block w with h|h
  ·exact h
  ·simp[World.cell?,Array.getElem?_eq_none h]at ht0
 have el:=YV ⟨w,0,none⟩ t ((n2:World).alloc n1) (by rw[World.cell?_alloc_lt _ _ ⟨w,0,none⟩ (by simp;omega)];simp);have st:=aY t ⟨w.heap.size+1+1+1,0,none⟩ e old (((n2:World).alloc n1).alloc (.cells #[.pointer (some e)] 63))
  (by rw[World.cell?_alloc_at _ _ _ _ (by simp)];rfl)
  (by rw[World.cell?_alloc_lt _ _ t (by simp;omega),World.cell?_alloc_lt _ _ t (by simp;omega),World.cell?_alloc_lt _ _ t (by simp;omega),World.cell?_alloc_lt _ _ t htl];exact ht0)
  (by rw[World.frozen?_alloc_old _ _ t (by simp;omega),World.frozen?_alloc_old _ _ t (by simp;omega),World.frozen?_alloc_old _ _ t (by simp;omega),World.frozen?_alloc_old _ _ t (Nat.ne_of_lt htl)];exact hf0)
 unfold Zi;go_enter func25,ntmps25
 go_wp2;refine wp_loop_rounds 1 ?_;rw[rounds_succ];go_wp2;go_ret;exact⟨rfl,rfl⟩
open Go.Maps Go.BigFrame Go.Shelf
def UR(w:World)(E:Nat->Addr):Prop:=(∀i,i<14->i≠3->i≠0->E i≠E 0)/\(∀i,i<14->i≠3->∃ca ta,w.heap[(E i).block]? =some (.cells ca ta (0,0)))/\w.cell? ⟨3,0,none⟩=some (.iface 165 (.agg #[.pointer (some ⟨18,59,none⟩)]))/\17<w.heap.size
theorem UR.below{w w':World}{E:Nat->Addr}(h:UR w E)(hb:Below w w w'):UR w' E:=by
 refine⟨h.1,fun i h1 h2=>?_,?_,Nat.lt_of_lt_of_le h.2.2.2 hb.size⟩
 ·obtain⟨ca,ta,hc⟩:=h.2.1 i h1 h2;exact⟨ca,ta,(hb.block _ (Array.getElem?_eq_some_iff.1 hc).1).trans hc⟩
 ·exact(hb.cell (p:=⟨3,0,none⟩) (by have:=h.2.2.2;show 3<_;omega)).trans h.2.2.1
theorem XT(e:Addr)(tb:Nat)(w:World):w.grownBy (Zi e ⟨tb,0,none⟩ w) (some tb):=by
 unfold Zi;refine Aq (En ⟨rfl,rfl,rfl,Nat.le_refl _,fun _ _ _=>rfl⟩ ?_) _ _;exact((((Below.refl _ w).alloc (Nat.le_refl _) _).alloc (by simp) _).alloc (by simp;omega) _).alloc (by simp;omega) _
theorem Zv{e:Addr}{tb:Nat}{w:World}(h:Ah w tb (.cells #[.pointer none] 63)):Ah (Zi e ⟨tb,0,none⟩ w) tb (.cells #[.pointer (some e)] 63):=by
 unfold Zi;exact((((h.alloc _).alloc _).alloc _).alloc _).jB (i:=0) _
theorem Ah.c1{W:World}{P t:Nat}{x:Value}(h:Ah W P (.cells #[x] t)):W.cell? ⟨P,0,none⟩=some x:=by
 unfold Ah at h;simp[World.cell?,h]
def Lf(l l2:List Ac):Prop:=l2.length=l.length/\∀j,j<l.length->(As l j).same (As l2 j)
theorem Lf.refl(l:List Ac):Lf l l:=⟨rfl,fun _ _=>Hc _⟩
def Xg(k:Ar)(s:Ak)(w:World)(e:Ending)(w':World):Prop:=
 Below w w w'/\∃(kv:Value) (c:Int) (tx:ByteArray),e= .returned (.tuple #[kv,.int .i64 c,.string tx])/\
 ((BI k=false/\kv= .agg #[.slice none 0 0,.slice none 0 0]/\c=1/\tx=⟨#[]⟩)∨
  (BI k=true/\∃(lt:List Ac) (lo:List Ab) (lt' lt2:List Ac) (lo' lo2:List Ab) (ta oa:Option Addr) (ca co:Nat),k.same (DW none 0 none 0 lt lo)/\kv= .agg #[.slice ta lt'.length ca,.slice oa lo'.length co]/\Ec w' w (.slice ta lt'.length ca) (.slice oa lo'.length co) lt' lo'/\Apart lt' lo'/\Lf lt' lt2/\Ih lo' lo2/\Ij lt lo s c tx lt2 lo2))
theorem Hs(tmps:Array Value)(W:World)(P:Nat)(x y v5 v6:Value)(h:Ah W P (.cells #[x,y] 36))(h4:tmps[4]? =some (.pointer (some ⟨P,0,none⟩)))(h5:tmps[5]? =some v5)(h6:tmps[6]? =some v6):
 (results Tryz.f9 tmps).run prog W= .ok (.tuple #[.agg #[x,y],v5,v6]) W:=by
 obtain⟨z0,z1⟩:=h.two;simp[results,Tryz.results9,go_sem,h4,h5,h6,z0,z1]
theorem Yw{k:Ar}{lt lt2:List Ac}{lo lo2:List Ab}{ta oa:Option Addr}{ca co:Nat}(h:k.same (DW ta ca oa co lt lo))(h2:k.same (DW none 0 none 0 lt2 lo2)):Lf lt lt2/\Ih lo lo2:=by
 refine⟨⟨h2.1.trans h.1.symm,fun j hj=>?_⟩,h2.2.2.1.trans h.2.2.1.symm,fun j hj=>?_⟩
 ·have hj':j<k.tn:=by have e:lt.length=k.tn:=h.1;omega
  have a:(k.T j).same (As lt j):=h.2.1 j hj';have b:(k.T j).same (As lt2 j):=h2.2.1 j hj';obtain⟨a1,a2,a3,a4,a5,a6,a7⟩:=a;obtain⟨b1,b2,b3,b4,b5,b6,b7⟩:=b;exact⟨b1.trans a1.symm,b2.trans a2.symm,⟨b3.1.trans a3.1.symm,b3.2.1.trans a3.2.1.symm,b3.2.2.trans a3.2.2.symm⟩,b4.trans a4.symm,⟨b5.1.trans a5.1.symm,b5.2.1.trans a5.2.1.symm,b5.2.2.trans a5.2.2.symm⟩,⟨b6.1.trans a6.1.symm,b6.2.trans a6.2.symm⟩,b7.trans a7.symm⟩
 ·have hj':j<k.on:=by have e:lo.length=k.on:=h.2.2.1;omega
  have a:(k.O j).same (Aa lo j):=h.2.2.2 j hj';have b:(k.O j).same (Aa lo2 j):=h2.2.2.2 j hj';obtain⟨a1,a2,a3,a4,a5,a6,a7,a8,a9,a10⟩:=a;obtain⟨b1,b2,b3,b4,b5,b6,b7,b8,b9,b10⟩:=b;exact⟨b1.trans a1.symm,b2.trans a2.symm,b3.trans a3.symm,b4.trans a4.symm,⟨b5.1.trans a5.1.symm,b5.2.1.trans a5.2.1.symm,b5.2.2.trans a5.2.2.symm⟩,b6.trans a6.symm,⟨b7.1.trans a7.1.symm,b7.2.trans a7.2.symm⟩,⟨b8.1.trans a8.1.symm,b8.2.trans a8.2.symm⟩,b9.trans a9.symm,⟨b10.1.trans a10.1.symm,b10.2.1.trans a10.2.1.symm,b10.2.2.trans a10.2.2.symm⟩⟩
theorem Qo(E:Nat->Addr)(k:Ar)(s:Ak)(w:World)(hk:k.at w)(hs:s.at w)(hcap:k.on<=k.ok)(hw:∀i,i<k.on->(Lit.int .i64 (k.O i).id).wf=true/\(Lit.int .i64 (k.O i).up).wf=true)(he:Jj w E)(hE:UR w E)(tab:P8 w):
 Calls prog 9 #[.agg #[.slice k.ta k.tn k.tk,.slice k.oa k.on k.ok],.agg #[s.th,s.kind,s.id,s.to,s.cat,.string s.data,s.b1,.slice s.c1.a s.c1.n s.c1.k,s.b2,.slice s.c2.a s.c2.n s.c2.k]] w fun e w'=>Xg k s w e w':=by
 have n10:No (.cells #[s.th,s.kind,s.id,s.to,s.cat,.string s.data,s.b1,.slice s.c1.a s.c1.n s.c1.k,s.b2,.slice s.c2.a s.c2.n s.c2.k] 44):=⟨⟩;have n13:No (.cells #[.slice k.ta k.tn k.tk,.slice k.oa k.on k.ok] 36):=⟨⟩;have n9:Nw ((w.alloc n13).alloc n10):=⟨⟩;have n11:No (.cells #[.slice none 0 0,.slice none 0 0] 36):=⟨⟩;have b0:Below w w ((n9:World).alloc n11):=(((Below.refl _ w).alloc (Nat.le_refl _) _).alloc (by simp) _).alloc (by simp;omega) _;have f0:Ah ((n9:World).alloc n11) w n13:=((Ah.new w _).alloc _).alloc _;have f1:Ah ((n9:World).alloc n11) (w.heap.size+1) n10:=by
  have h:=(Ah.new (w.alloc n13) n10).alloc n11;rw[show(w.alloc n13).heap.size=w.heap.size+1 from by simp]at h;exact h
 have f2:Ah ((n9:World).alloc n11) (w.heap.size+2) n11:=by
  have h:=Ah.new n9 n11;rw[show(n9:World).heap.size=w.heap.size+2 from by simp]at h;exact h
 have h19:=hE.2.2.2;have h14:14<=w.heap.size:=by omega
 have DN:=hid (Yc E k s ((n9:World).alloc n11) (hk.below b0) (hs.below b0) hcap hw (he.below h14 b0) (by have:=b0.size;omega) (tab.below b0));have B0:=hid b0;have F0:=hid f0;have F2:=hid f2;have HK:=hid hk;have HE:=hid he;have HB:=hid hE;obtain⟨x0,x1⟩:=f0.two;obtain⟨y0,y1,y2,y3,y4,y5,y6,y7,y8,y9⟩:=f1.jE;clear b0 f0 f1 f2 hk hs he hE tab;go_enter func9,ntmps9
 go_wp2_with fail
 clear x0 x1 y0 y1 y2 y3 y4 y5 y6 y7 y8 y9;generalize ((n9:World).alloc n11)=w0 at *;refine DN.out.mono ?_;rintro e w1 ⟨kv,tx,v,rfl,b1,⟨ga,qa,n1,n2,c1,c2,rfl⟩,hh⟩;have n12:No (.cells #[.slice ga n1 c1,.slice qa n2 c2] 36):=⟨⟩;have b2:=(Below.refl _ w1).alloc (Nat.le_refl _) n12;have AA:=hid (Ae B0 b1);have A2:=hid (Ae AA b2);have G0:=hid ((F0.out.below b1).below b2);have G2:=hid ((F2.out.below b1).below b2);have G7:=hid (Ah.new w1 n12);have BB:=hid b2;have z1:w.heap.size+2<w1.heap.size:=(F2.out.below b1).lt;have e0:=(HE.out.below h14 A2 0 (by omega) (by omega)).1;have s0:w.heap.size+2<w0.heap.size:=F2.out.lt;have HH:=hid hh;clear b1 b2 F0 F2 DN hh;rcases HH.out with⟨nk,r,rfl,br⟩|⟨ok,c,lt,lo,told,hc,sm,dp⟩|⟨ok,rfl,lt,lo,lt',lo',lo2,g,ca,q,co,sm,ekv,ks,ap,so,dp⟩
 ·have IS:=hid (ZF r 1 (E 0) (w1.alloc n12) (br.below BB));have NK:=hid nk;clear nk br HH;go_wp2_with fail
  generalize w1.alloc n12=w2 at *;refine IS.out.mono ?_;rintro e w3 ⟨rfl,hw3⟩;have hw4:=hw3.symm;subst hw4;clear hw3 IS;obtain⟨r0,r1⟩:=G2.out.two;have rf:=G2.out.jC;go_wp2;have gq:=GH w2 (w.heap.size+2) (.slice none 0 0) (.slice none 0 0);have bb:Below w w ((w2.setCell ⟨w.heap.size+2,0,none⟩ (.slice none 0 0)).setCell ⟨w.heap.size+2,1,none⟩ (.slice none 0 0)):=A2.out.trans (below_grown gq A2.out.size (fun j e=>by have:=Option.some.inj e;omega));exact bodyPost_ret (Hs _ _ (w.heap.size+2) (.slice none 0 0) (.slice none 0 0) _ _ ((G2.out.jB (i:=0) _).jB (i:=1) _) rfl rfl rfl) rfl ⟨bb,_,_,_,rfl,.inl ⟨NK,rfl,rfl,rfl⟩⟩
 ·rcases told with⟨h0,_⟩|⟨_,r,i,rfl,br,i0,i14,i3,rl⟩
  ·exact absurd h0 hc
  have br2:=br.below BB.out;obtain⟨ca0,ta0,hca⟩:=(HB.out.below A2).2.1 i i14 i3;obtain⟨cb0,tb0,hcb⟩:=(HB.out.below A2).2.1 0 (by omega) (by omega);have IS:=hid (ZC r c (E i) (E 0) ca0 cb0 ta0 tb0 (w1.alloc n12) br2 (HB.out.1 i i14 i3 i0) hca hcb);have BR:=hid br2;have SM:=hid sm;have DP:=hid dp;have OK:=hid ok;have HB2:=hid (HB.out.below A2);have w1l:w1.heap.size<(w1.alloc n12).heap.size:=by simp
  have rlt:r<w1.heap.size:=br.lt;clear hca hcb br br2 sm dp ok HH;go_wp2_with fail
  generalize w1.alloc n12=w2 at *;refine IS.out.mono ?_;rintro e w3 ⟨rfl,hw3⟩;have hw4:=hw3.symm;subst hw4;clear hw3 IS;have n14:No (.cells #[.pointer none] 63):=⟨⟩;have b3:=(Below.refl _ w2).alloc (Nat.le_refl _) n14;have t3:=Ah.new w2 n14;have tc:(w2.alloc n14).cell? ⟨w2,0,none⟩=some (.pointer none):=t3.c1;have AS:=hid (aB ⟨r,0,none⟩ ⟨w2,0,none⟩ (.pointer none) (w2.alloc n14) (HB2.out.below b3).2.2.1 tc (t3.jC _));have gr:=XT ⟨r,0,none⟩ w2 (w2.alloc n14);have gw:w2.grownBy (Zi ⟨r,0,none⟩ ⟨w2,0,none⟩ (w2.alloc n14)) none:=⟨gr.os,gr.tape,gr.output,Nat.le_trans b3.size gr.size,fun j hj _=>(gr.block j (Nat.lt_of_lt_of_le hj b3.size) (fun e=>by have:=Option.some.inj e;omega)).trans (b3.block j hj)⟩;have bA:Below w2 w2 (Zi ⟨r,0,none⟩ ⟨w2,0,none⟩ (w2.alloc n14)):=below_grown gw (Nat.le_refl _) (fun j e=>by cases e);have TT:=hid (Zv (e:=⟨r,0,none⟩) t3);have A4:=hid (Ae A2 bA);have H0:=hid (G0.out.below bA);have H2:=hid (G2.out.below bA);have R4:=hid (BR.out.below bA);clear b3 t3 tc gr gw bA;go_wp2_with fail
  refine AS.out.mono ?_;rintro e w4 ⟨rfl,hw4⟩;rw[<-hw4]at TT A4 H0 H2 R4;clear hw4 AS;have EK:Hid (∀args w,(callFunc 26 args).run prog w= .ok (.enter 26 args) w):=hid (enters_of func26 (by kernel_rfl) rfl);have PK:Hid (Calls prog 26 #[.agg #[.slice k.ta k.tn k.tk,.slice k.oa k.on k.ok]] w4.drew fun e w'=>∃v,e= .returned v/\∃(lt:List Ac) (lo:List Ab) (ta oa:Option Addr) (ca co:Nat),v= .agg #[.slice ta lt.length ca,.slice oa lo.length co]/\Cg w' w4 (.slice ta lt.length ca) (.slice oa lo.length co) lt lo/\Apart lt lo/\k.same (DW ta ca oa co lt lo)/\Below w4 w4.drew w'):=hid ((GY k w4.drew ((HK.out.below A4).below (Below.refl _ w4).drew) (Kp OK)).mono fun e w' hh=>by
   obtain⟨lt,lo,ta,oa,ca,co,rfl,h1,h2,_,h4,h5⟩:=hh;exact⟨_,rfl,lt,lo,ta,oa,ca,co,rfl,h1,h2,h4,h5⟩)
  go_upto_region 6 with fail
  obtain⟨x0,x1⟩:=(show Ah w4.drew w _ from H0.out).two;obtain⟨r0,r1⟩:=(show Ah w4.drew (w.heap.size+2) _ from H2.out).two;have rf:=(show Ah w4.drew (w.heap.size+2) _ from H2.out).jC;have t0:w4.drew.cell? ⟨w2,0,none⟩=some (.pointer (some ⟨r,0,none⟩)):=Ah.c1 (show Ah w4.drew w2 _ from TT.out);obtain⟨q0,q1⟩:=(show Ah w4.drew r _ from R4.out).two;have n1:¬r=w.heap.size+1+1:=by omega
  have n2:¬w.heap.size+1+1=r:=by omega
  have n3:¬r=w.heap.size+2:=by omega
  have n4:¬w.heap.size+2=r:=by omega
  have n5:¬w2.heap.size=w.heap.size+1+1:=by omega
  have n6:¬w.heap.size+1+1=w2.heap.size:=by omega
  have n7:¬w2.heap.size=w.heap.size+2:=by omega
  have n8:¬w.heap.size+2=w2.heap.size:=by omega
  go_region_law(refine Dy (by rfl) 26 _ _ (by rfl) EK _ (by rfl) _ PK ?_;rintro v w5 ⟨lt5,lo5,ta,oa,ca,co,rfl,ks,ap,sm,b5⟩;have b5':Below w4 w4 w5:=Ae (Below.refl w4 w4).drew b5;have K5:=hid ks;have AP5:=hid ap;have SM5:=hid sm;have A5:=hid (Ae A4 b5');have J2:=hid (H2.out.below b5');have JT:=hid (TT.out.below b5');have JR:=hid (R4.out.below b5');obtain⟨u0,u1⟩:=J2.out.two;have uf:=J2.out.jC;have v0:w5.cell? ⟨w2,0,none⟩=some (.pointer (some ⟨r,0,none⟩)):=JT.out.c1;obtain⟨m0,m1⟩:=JR.out.two;clear ks ap sm b5 b5')
  all_goals(
   go_wp2;have n17:Nv (.slice ta lt5.length ca):=⟨⟩;have n18:Nv (.slice oa lo5.length co):=⟨⟩;have gq:=GH w5 (w.heap.size+2) n17 n18;have bb:Below w w ((w5.setCell ⟨w.heap.size+2,0,none⟩ n17).setCell ⟨w.heap.size+2,1,none⟩ n18):=A5.out.trans (below_grown gq A5.out.size (fun j e=>by have:=Option.some.inj e;omega));have tw:=Yw SM5 SM.out;have w4l:w.heap.size+2<w4.heap.size:=H2.out.lt;exact bodyPost_ret (Hs _ _ (w.heap.size+2) n17 n18 _ _ ((J2.out.jB (i:=0) _).jB (i:=1) _) rfl rfl rfl) rfl ⟨bb,_,_,_,rfl,.inr ⟨OK,lt,lo,lt5,lt,lo5,lo,ta,oa,ca,co,SM,rfl,(K5.out.f.past gq (by omega)).base (by omega),AP5,tw.1,tw.2,DP⟩⟩)
 ·have OK:=hid ok;have SM:=hid sm;have KS:=hid (ks.below BB);have AP:=hid ap;have SO:=hid so;have DP:=hid dp;have EKV:=hid ekv;clear ekv;have n16:No (.cells #[.slice ga n1 c1,.slice qa n2 c2] 36):=⟨⟩;have IS:=hid (YH 290 (.pointer (some (E 0))) (w1.alloc n16));clear ok sm ks ap so dp HH;go_wp2_with fail
  generalize w1.alloc n16=w2 at *;refine IS.out.mono ?_;rintro e w3 ⟨rfl,hw3⟩;have hw4:=hw3.symm;subst hw4;clear hw3 IS;have n15:No (.cells #[.pointer none] 63):=⟨⟩;have b3:=(Below.refl _ w2).alloc (Nat.le_refl _) n15;have A4:=hid (Ae A2 b3);have H2:=hid (G2.out.below b3);have H7:=hid (G7.out.below b3);have K4:=hid (KS.out.below b3);have AS:=hid (YL (.iface 65 (.pointer (some ⟨w2,0,none⟩))) (w2.alloc n15));clear b3;go_wp2_with fail
  generalize w2.alloc n15=w4 at *;refine AS.out.mono ?_;rintro e w5 ⟨rfl,hw5⟩;have hw6:=hw5.symm;subst hw6;clear hw5 AS;obtain⟨r0,r1⟩:=H2.out.two;have rf:=H2.out.jC;obtain⟨x0,x1⟩:=H7.out.two;go_wp2;have gq:=GH w4 (w.heap.size+2) (.slice ga n1 c1) (.slice qa n2 c2);have bb:Below w w ((w4.setCell ⟨w.heap.size+2,0,none⟩ (.slice ga n1 c1)).setCell ⟨w.heap.size+2,1,none⟩ (.slice qa n2 c2)):=A4.out.trans (below_grown gq A4.out.size (fun j e=>by have:=Option.some.inj e;omega));have KF:=(K4.out.past gq s0).base (show w.heap.size<=w0.heap.size by omega);refine bodyPost_ret (Hs _ _ (w.heap.size+2) (.slice ga n1 c1) (.slice qa n2 c2) _ _ ((H2.out.jB (i:=0) _).jB (i:=1) _) rfl rfl rfl) rfl ⟨bb,_,_,_,rfl,.inr ⟨OK,lt,lo,lt',lt',lo',lo2,some ⟨g,0,none⟩,some ⟨q,0,none⟩,ca,co,SM,?_,KF,AP,Lf.refl _,SO,DP⟩⟩;exact EKV.out
def Al.nm(c:Al):Al:=⟨none,c.n,0,c.f,c.g⟩
def Av.nm(c:Av):Av:=⟨none,c.n,0,c.h⟩
def Ao.nm(c:Ao):Ao:=⟨none,c.n,0,c.f⟩
def Ac.nm(x:Ac):Ac:=⟨x.id,x.b1,x.c1.nm,x.b2,x.c2.nm,x.own.nm,x.made⟩
def Ab.nm(x:Ab):Ab:=⟨x.id,x.kind,x.up,x.b1,x.c1.nm,x.data,x.jA.nm,x.own.nm,x.b2,x.c2.nm⟩
def Al.eqv(c d:Al):Prop:=d.n=c.n/\∀i,i<c.n->d.f i=c.f i/\d.g i=c.g i
def Av.eqv(c d:Av):Prop:=d.n=c.n/\∀i,i<c.n->d.h i=c.h i
def Ao.eqv(c d:Ao):Prop:=d.n=c.n/\∀i,i<c.n->d.f i=c.f i
def Ac.eqv(x y:Ac):Prop:=y.id=x.id/\y.b1=x.b1/\x.c1.eqv y.c1/\y.b2=x.b2/\x.c2.eqv y.c2/\x.own.eqv y.own/\y.made=x.made
def Ab.eqv(x y:Ab):Prop:=y.id=x.id/\y.kind=x.kind/\y.up=x.up/\y.b1=x.b1/\x.c1.eqv y.c1/\y.data=x.data/\x.jA.eqv y.jA/\x.own.eqv y.own/\y.b2=x.b2/\x.c2.eqv y.c2
theorem Ac.eqv.refl(x:Ac):x.eqv x:=⟨rfl,rfl,⟨rfl,fun _ _=>⟨rfl,rfl⟩⟩,rfl,⟨rfl,fun _ _=>⟨rfl,rfl⟩⟩,⟨rfl,fun _ _=>rfl⟩,rfl⟩
theorem Ab.eqv.refl(x:Ab):x.eqv x:=⟨rfl,rfl,rfl,rfl,⟨rfl,fun _ _=>⟨rfl,rfl⟩⟩,rfl,⟨rfl,fun _ _=>rfl⟩,⟨rfl,fun _ _=>rfl⟩,rfl,⟨rfl,fun _ _=>⟨rfl,rfl⟩⟩⟩
def Ss(l m:List Ac):Prop:=m.length=l.length/\∀j,j<l.length->(As l j).eqv (As m j)
def QV(l m:List Ab):Prop:=m.length=l.length/\∀j,j<l.length->(Aa l j).eqv (Aa m j)
theorem Ss.refl(l:List Ac):Ss l l:=⟨rfl,fun _ _=> .refl _⟩
theorem QV.refl(l:List Ab):QV l l:=⟨rfl,fun _ _=> .refl _⟩
theorem Hr(lo:List Ab)(i:Nat):Aa (lo.map Ab.nm) i=(Aa lo i).nm:=by
 unfold Aa;rw[List.getD_eq_getElem?_getD,List.getD_eq_getElem?_getD,List.getElem?_map];cases lo[i]?<;>rfl
theorem an(lt:List Ac)(i:Nat):As (lt.map Ac.nm) i=(As lt i).nm:=by
 unfold As;rw[List.getD_eq_getElem?_getD,List.getD_eq_getElem?_getD,List.getElem?_map];cases lt[i]?<;>rfl
theorem Lb(lo:List Ab)(x:Int):Gw (lo.map Ab.nm) x=Gw lo x:=by
 unfold Gw;rw[List.length_map];congr 1;funext i;rw[Hr];rfl
theorem Y8(lt:List Ac)(x:Int):Vx (lt.map Ac.nm) x=Vx lt x:=by
 unfold Vx;rw[List.length_map];congr 1;funext i;rw[an];rfl
theorem BZ(X:Ac)(lo:List Ab)(x k:Int):BH X.nm (lo.map Ab.nm) x k=BH X lo x k:=by
 unfold BH;rw[Lb];cases Gw lo x with
 |none=>rfl
 |some u=>simp only;rw[Hr];rfl
theorem Ze(o:Ab):∀lo:List Ab,(Be o lo).map Ab.nm=Be o.nm (lo.map Ab.nm)
 |[]=>rfl
 |x::r=>by
  have ih:=Ze o r;by_cases h:o.id<x.id
  ·have a:Be o (x::r)=o::x::r:=(by simp[Be,h]);have b:Be o.nm ((x::r).map Ab.nm)=o.nm::x.nm::r.map Ab.nm:=by
    show(if o.nm.id<x.nm.id then _ else _)=_;rw[if_pos (show o.nm.id<x.nm.id from h)]
   rw[a,b];rfl
  ·have a:Be o (x::r)=x::Be o r:=(by simp[Be,h]);have b:Be o.nm ((x::r).map Ab.nm)=x.nm::Be o.nm (r.map Ab.nm):=by
    show(if o.nm.id<x.nm.id then _ else _)=_;rw[if_neg (show ¬o.nm.id<x.nm.id from h)]
   rw[a,b,<-ih];rfl
theorem Zw(lo:List Ab)(u:Nat):Bv (lo.map Ab.nm) u=Bv lo u:=by
 unfold Bv;have e1:(fun i=>(Aa (lo.map Ab.nm) i).id)=fun i=>(Aa lo i).id:=by funext i;rw[Hr];rfl
 have e2:(fun i=>(Aa (lo.map Ab.nm) i).up)=fun i=>(Aa lo i).up:=by funext i;rw[Hr];rfl
 rw[e1,e2,List.length_map]
theorem au(G:List Int)(lo:List Ab)(j:Nat):(DO G lo j).map Ab.nm=DO G (lo.map Ab.nm) j:=by
 unfold DO;rw[<-List.map_take,List.filter_map];rfl
theorem aJ(lo:List Ab)(x:Int)(n:Nat):IW (Aa (lo.map Ab.nm)) x n=IW (Aa lo) x n:=by
 unfold IW;have e1:(fun i=>(Aa (lo.map Ab.nm) i).id)=fun i=>(Aa lo i).id:=by funext i;rw[Hr];rfl
 have e2:(fun j=>(Aa (lo.map Ab.nm) j).up==x)=fun j=>(Aa lo j).up==x:=by funext i;rw[Hr];rfl
 rw[e1,e2]
theorem To(X:Ac)(s:Ak)(lo:List Ab):Fl X.nm s (lo.map Ab.nm)=Fl X s lo:=by
 unfold Fl;rw[Lb];cases Gw lo s.id with
 |none=>rfl
 |some u=>simp only;rw[Hr];rfl
theorem Xu(X:Ac)(lo:List Ab)(x:Int):Hb X.nm (lo.map Ab.nm) x=Hb X lo x:=by
 unfold Hb;rw[Lb];cases Gw lo x with
 |none=>rfl
 |some u=>
  simp only;rw[Hr];show(decide (0<u)&&match Gw (lo.map Ab.nm) (Aa lo u).up with|some p=>_|none=>false)=_;rw[Lb];cases Gw lo (Aa lo u).up with
  |none=>rfl
  |some p=>simp only;rw[Hr];rfl
theorem Y9{X:Ac}{s:Ak}{lt:List Ac}{lo:List Ab}{t:Nat}{c:Int}{tx:ByteArray}{lt':List Ac}{lo':List Ab}(h:FI X s lt lo t c tx lt' lo'):FI X.nm s (lt.map Ac.nm) (lo.map Ab.nm) t c tx (lt'.map Ac.nm) (lo'.map Ab.nm):=by
 cases h with
 |k1 h x e1 e2 p=>
  refine .k1 h x.nm (by rw[e1,List.map_set]) (by rw[e2]) ?_;rcases p with⟨a,b,rfl,d⟩|⟨a,b,d,a1,cc,rfl⟩
  ·exact .inl ⟨a,b,rfl,d⟩
  ·exact .inr ⟨a,b,d,none,0,rfl⟩
 |k12 h x e1 e2 e3 p=>
  refine .k12 h x.nm (by rw[e1,List.map_set]) (by rw[e2]) e3 ?_;rcases p with⟨a,b,rfl⟩|⟨a,b,d,e,rfl⟩
  ·exact .inl ⟨a,b,rfl⟩
  ·exact .inr ⟨a,b,d.nm,e,rfl⟩
 |k14 h x e1 e2 e3 p=>
  refine .k14 h x.nm (by rw[e1,List.map_set]) (by rw[e2]) e3 ?_;rcases p with⟨a,b,rfl⟩|⟨a,b,a1,cc,rfl⟩
  ·exact .inl ⟨a,b,rfl⟩
  ·exact .inr ⟨a,b,none,0,rfl⟩
 |make h p=>
  refine .make h ?_;rcases p with⟨a,b,d,rfl,rfl⟩|⟨a,b,d,e,rfl,rfl⟩|⟨a,b,d,e,rfl,d1,d2,ow,s1,s2,s3,rfl⟩
  ·exact .inl ⟨a,by rw[To];exact b,d,rfl,rfl⟩
  ·exact .inr (.inl ⟨a,by rw[To];exact b,d,e,rfl,rfl⟩)
  ·refine .inr (.inr ⟨a,by rw[To];exact b,d,e,by rw[List.map_set];rfl,d1.nm,d2.nm,ow.nm,s1,?_,?_,by rw[Ze];rfl⟩)
   ·by_cases h5:s.kind=5
    ·rw[if_pos h5]at s2 ⊢;exact s2
    ·rw[if_neg h5]at s2 ⊢;rw[s2];rfl
   ·by_cases h5:0<s.cat
    ·rw[if_pos h5]at s3 ⊢;exact s3
    ·rw[if_neg h5]at s3 ⊢;rw[s3];rfl
 |drop h e1 e3 p=>
  refine .drop h (by rw[e1]) e3 ?_;rcases p with⟨a,b,rfl⟩|⟨a,b,u,d,e,rfl⟩
  ·exact .inl ⟨a,by rw[Xu];exact b,rfl⟩
  ·exact .inr ⟨a,by rw[Xu];exact b,u,by rw[Lb];exact d,e,by rw[au,Zw,List.length_map]⟩
 |k6 h p=>
  refine .k6 h ?_;rcases p with⟨a,b,d,rfl,rfl⟩|⟨u,a,⟨b,d,e,rfl,rfl⟩|⟨b,d,e,rfl,rfl⟩⟩
  ·exact .inl ⟨by rw[BZ];exact a,b,d,rfl,rfl⟩
  ·exact .inr ⟨u,by rw[BZ];exact a,.inl ⟨by rw[Hr];exact b,d,e,rfl,rfl⟩⟩
  ·exact .inr ⟨u,by rw[BZ];exact a,.inr ⟨by rw[Hr];exact b,d,e,rfl,by rw[List.map_set,Hr];rfl⟩⟩
 |k7 h p=>
  refine .k7 h ?_;rcases p with⟨a,b,d,rfl,rfl⟩|⟨u,a,b,d,rfl,rfl⟩
  ·exact .inl ⟨by rw[BZ];exact a,b,d,rfl,rfl⟩
  ·exact .inr ⟨u,by rw[BZ];exact a,b,by rw[Hr];exact d,rfl,rfl⟩
 |k8 h p=>
  refine .k8 h ?_;rcases p with⟨a,b,d,rfl,rfl⟩|⟨u,a,⟨b,d,e,rfl,rfl⟩|⟨p,b,⟨d,e,f,rfl,rfl⟩|⟨d,e,f,g,rfl,rfl⟩⟩⟩
  ·exact .inl ⟨by rw[BZ];exact a,b,d,rfl,rfl⟩
  ·exact .inr ⟨u,by rw[BZ];exact a,.inl ⟨by rw[Lb];exact b,d,e,rfl,rfl⟩⟩
  ·exact .inr ⟨u,by rw[BZ];exact a,.inr ⟨p,by rw[Lb];exact b,.inl ⟨by rw[Hr];exact d,e,f,rfl,rfl⟩⟩⟩
  ·exact .inr ⟨u,by rw[BZ];exact a,.inr ⟨p,by rw[Lb];exact b,.inr ⟨by rw[Hr];exact d,by rw[Hr];exact e,f,g,rfl,by rw[List.map_set,Hr,Hr];rfl⟩⟩⟩
 |k9 h p=>
  refine .k9 h ?_;rcases p with⟨a,b,d,rfl,rfl⟩|⟨u,a,⟨b,d,e,rfl,rfl⟩|⟨b,d,e,f,rfl,rfl⟩|⟨b,d,e,f,rfl,a1,c1,rfl⟩⟩
  ·exact .inl ⟨by rw[BZ];exact a,b,d,rfl,rfl⟩
  ·exact .inr ⟨u,by rw[BZ];exact a,.inl ⟨by rw[Hr];exact b,d,e,rfl,rfl⟩⟩
  ·exact .inr ⟨u,by rw[BZ];exact a,.inr (.inl ⟨by rw[Hr];exact b,by rw[Hr];exact d,e,f,rfl,rfl⟩)⟩
  ·exact .inr ⟨u,by rw[BZ];exact a,.inr (.inr ⟨by rw[Hr];exact b,by rw[Hr];exact d,e,f,rfl,none,0,by rw[List.map_set,Hr];rfl⟩)⟩
 |k10 h p=>
  refine .k10 h ?_;rcases p with⟨a,b,d,rfl,rfl⟩|⟨u,a,⟨b,d,e,rfl,rfl⟩|⟨b,d,e,f,rfl,rfl⟩|⟨b,d,e,f,rfl,a1,c1,rfl⟩⟩
  ·exact .inl ⟨by rw[BZ];exact a,b,d,rfl,rfl⟩
  ·exact .inr ⟨u,by rw[BZ];exact a,.inl ⟨by rw[Hr];exact b,d,e,rfl,rfl⟩⟩
  ·exact .inr ⟨u,by rw[BZ];exact a,.inr (.inl ⟨by rw[Hr];exact b,by rw[Hr];exact d,e,f,rfl,rfl⟩)⟩
  ·exact .inr ⟨u,by rw[BZ];exact a,.inr (.inr ⟨by rw[Hr];exact b,by rw[Hr];exact d,e,by rw[Hr];exact f,rfl,none,0,by rw[List.map_set,Hr];rfl⟩)⟩
 |k13 h p=>
  refine .k13 h ?_;rcases p with⟨a,b,d,rfl,rfl⟩|⟨u,a,⟨b,d,e,rfl,rfl⟩|⟨b,d,e,f,rfl,rfl⟩|⟨b,d,e,f,a1,c1,rfl,rfl⟩⟩
  ·exact .inl ⟨by rw[BZ];exact a,b,d,rfl,rfl⟩
  ·exact .inr ⟨u,by rw[BZ];exact a,.inl ⟨by rw[Hr];exact b,d,e,rfl,rfl⟩⟩
  ·exact .inr ⟨u,by rw[BZ];exact a,.inr (.inl ⟨by rw[Hr];exact b,by rw[Hr];exact d,e,f,rfl,rfl⟩)⟩
  ·exact .inr ⟨u,by rw[BZ];exact a,.inr (.inr ⟨by rw[Hr];exact b,by rw[Hr];exact d,e,f,none,0,by rw[List.map_set,Hr];rfl,rfl⟩)⟩
 |k15 h p=>
  refine .k15 h ?_;rcases p with⟨a,b,d,rfl,rfl⟩|⟨u,a,b,d,rfl,rfl⟩
  ·exact .inl ⟨by rw[BZ];exact a,b,d,rfl,rfl⟩
  ·exact .inr ⟨u,by rw[BZ];exact a,b,by rw[aJ,List.length_map];exact d,rfl,rfl⟩
theorem WU{l:List Ab}{u:Nat}{x y:Ab}(h:x.eqv y):QV (l.set u x) (l.set u y):=by
 refine⟨by simp,fun j hj=>?_⟩;have hj':j<l.length:=by simpa using hj
 unfold Aa;by_cases e:j=u
 ·subst e;simp[hj'];exact h
 ·have:u≠j:=fun h=>e h.symm;simp[this];exact .refl _
theorem LX{l:List Ac}{u:Nat}{x y:Ac}(h:x.eqv y):Ss (l.set u x) (l.set u y):=by
 refine⟨by simp,fun j hj=>?_⟩;have hj':j<l.length:=by simpa using hj
 unfold As;by_cases e:j=u
 ·subst e;simp[hj'];exact h
 ·have:u≠j:=fun h=>e h.symm;simp[this];exact .refl _
theorem Uw{o o2:Ab}(h:o.eqv o2):∀lo,QV (Be o lo) (Be o2 lo)
 |[]=>⟨rfl,fun j hj=>by
  have e:j=0:=by simp[Be]at hj;omega
  subst e;exact h⟩
 |x::r=>by
  have ih:=Uw h r;have e:o2.id=o.id:=h.1;by_cases hx:o.id<x.id
  ·have a:Be o (x::r)=o::x::r:=(by simp[Be,hx]);have b:Be o2 (x::r)=o2::x::r:=(by simp[Be,e,hx]);rw[a,b];refine⟨rfl,fun j hj=>?_⟩;cases j with
   |zero=>exact h
   |succ j=>exact .refl _
  ·have a:Be o (x::r)=x::Be o r:=(by simp[Be,hx]);have b:Be o2 (x::r)=x::Be o2 r:=(by simp[Be,e,hx]);rw[a,b];refine⟨by simp[ih.1],fun j hj=>?_⟩;cases j with
   |zero=>exact .refl _
   |succ j=>exact ih.2 j (by simpa using hj)
def UP(c c2:Int)(tx tx2:ByteArray)(lt lt2:List Ac)(lo lo2:List Ab):Prop:=c2=c/\tx2=tx/\Ss lt lt2/\QV lo lo2
theorem Ba{c:Int}{tx:ByteArray}{lt:List Ac}{lo:List Ab}:UP c c tx tx lt lt lo lo:=⟨rfl,rfl,.refl _,.refl _⟩
theorem Al.eqv.of_same{c d e:Al}(h:c.same d)(h2:c.same e):d.eqv e:=⟨h2.1.trans h.1.symm,fun _ _=>⟨by rw[h2.2.1,h.2.1],by rw[h2.2.2,h.2.2]⟩⟩
theorem Vk{X:Ac}{s:Ak}{lt:List Ac}{lo:List Ab}{t:Nat}{c c2:Int}{tx tx2:ByteArray}{lt' lt2:List Ac}{lo' lo2:List Ab}(h:FI X s lt lo t c tx lt' lo')(h2:FI X s lt lo t c2 tx2 lt2 lo2):UP c c2 tx tx2 lt' lt2 lo' lo2:=by
 cases h with
 |k1 h x e1 e2 p=>
  cases h2;all_goals try(exfalso;omega)
  rename_i h' x2 f1 f2 p2;subst e1 e2 f1 f2;rcases p with⟨rfl,a,rfl,rfl⟩|⟨rfl,a,rfl,a1,c1,rfl⟩<;>rcases p2 with⟨rfl,b,rfl,rfl⟩|⟨rfl,b,rfl,a2,cc2,rfl⟩
  ·exact Ba
  ·exact absurd a b
  ·exact absurd b a
  ·exact⟨rfl,rfl,LX (.refl _),.refl _⟩
 |k12 h x e1 e2 e3 p=>
  cases h2;all_goals try(exfalso;omega)
  rename_i h' x2 f1 f2 f3 p2;subst e1 e2 f1 f2 e3 f3;rcases p with⟨rfl,a,rfl⟩|⟨rfl,a,d,sd,rfl⟩<;>rcases p2 with⟨rfl,b,rfl⟩|⟨rfl,b,d2,sd2,rfl⟩
  ·exact Ba
  ·rw[a]at b;cases b
  ·rw[a]at b;cases b
  ·exact⟨rfl,rfl,LX ⟨rfl,rfl,.of_same sd sd2,rfl,⟨rfl,fun _ _=>⟨rfl,rfl⟩⟩,⟨rfl,fun _ _=>rfl⟩,rfl⟩,.refl _⟩
 |k14 h x e1 e2 e3 p=>
  cases h2;all_goals try(exfalso;omega)
  rename_i h' x2 f1 f2 f3 p2;subst e1 e2 f1 f2 e3 f3;rcases p with⟨rfl,a,rfl⟩|⟨rfl,a,a1,c1,rfl⟩<;>rcases p2 with⟨rfl,b,rfl⟩|⟨rfl,b,a2,cc2,rfl⟩
  ·exact Ba
  ·rw[a]at b;cases b
  ·rw[a]at b;cases b
  ·exact⟨rfl,rfl,LX (.refl _),.refl _⟩
 |make h p=>
  cases h2;all_goals try(exfalso;omega)
  rename_i h' p2;rcases p with⟨rfl,a,rfl,rfl,rfl⟩|⟨rfl,a,a',rfl,rfl,rfl⟩|⟨rfl,a,a',rfl,rfl,d1,d2,ow,s1,s2,s3,rfl⟩<;>rcases p2 with⟨rfl,b,rfl,rfl,rfl⟩|⟨rfl,b,b',rfl,rfl,rfl⟩|⟨rfl,b,b',rfl,rfl,f1,f2,ow2,r1,r2,r3,rfl⟩
  ·exact Ba
  ·rw[a]at b;cases b
  ·rw[a]at b;cases b
  ·rw[a]at b;cases b
  ·exact Ba
  ·exact absurd a' b'
  ·rw[a]at b;cases b
  ·exact absurd b' a'
  ·refine⟨rfl,rfl,.refl _,Uw (o:=newObj X s d1 d2 ow) (o2:=newObj X s f1 f2 ow2) ⟨rfl,rfl,rfl,rfl,.of_same s1 r1,rfl,⟨rfl,fun _ _=>rfl⟩,?_,rfl,?_⟩ lo⟩
   ·by_cases h5:0<s.cat
    ·rw[if_pos h5]at s3 r3;refine⟨r3.1.trans s3.1.symm,fun i hi=>?_⟩;have hi':i<ow.n:=hi;have e:i=0:=(by omega);subst e;exact r3.2.trans s3.2.symm
    ·rw[if_neg h5]at s3 r3;rw[s3,r3];exact⟨rfl,fun _ _=>rfl⟩
   ·by_cases h5:s.kind=5
    ·rw[if_pos h5]at s2 r2;exact .of_same s2 r2
    ·rw[if_neg h5]at s2 r2;rw[s2,r2];exact⟨rfl,fun _ _=>⟨rfl,rfl⟩⟩
 |drop h e1 e3 p=>
  cases h2;all_goals try(exfalso;omega)
  rename_i h' f1 f3 p2;subst e1 f1 e3 f3;rcases p with⟨rfl,a,rfl⟩|⟨rfl,a,u,a1,a2,rfl⟩<;>rcases p2 with⟨rfl,b,rfl⟩|⟨rfl,b,u2,b1,b2,rfl⟩
  ·exact Ba
  ·rw[a]at b;cases b
  ·rw[a]at b;cases b
  ·rw[a1]at b1;cases b1;exact Ba
 |k6 h p=>
  cases h2;all_goals try(exfalso;omega)
  rename_i h' p2;rcases p with⟨a,rfl,rfl,rfl,rfl⟩|⟨u,a,⟨a1,rfl,rfl,rfl,rfl⟩|⟨a1,rfl,rfl,rfl,rfl⟩⟩<;>rcases p2 with⟨b,rfl,rfl,rfl,rfl⟩|⟨u2,b,⟨b1,rfl,rfl,rfl,rfl⟩|⟨b1,rfl,rfl,rfl,rfl⟩⟩<;>first|exact Ba|(rw[a]at b;cases b;done)|(rw[a]at b;cases b;first|exact Ba|(rw[a1]at b1;cases b1))
 |k7 h p=>
  cases h2;all_goals try(exfalso;omega)
  rename_i h' p2;rcases p with⟨a,rfl,rfl,rfl,rfl⟩|⟨u,a,rfl,rfl,rfl,rfl⟩<;>rcases p2 with⟨b,rfl,rfl,rfl,rfl⟩|⟨u2,b,rfl,rfl,rfl,rfl⟩<;>first|exact Ba|(rw[a]at b;cases b;done)|(rw[a]at b;cases b;exact Ba)
 |k8 h p=>
  cases h2;all_goals try(exfalso;omega)
  rename_i h' p2;rcases p with⟨a,rfl,rfl,rfl,rfl⟩|⟨u,a,⟨a1,rfl,rfl,rfl,rfl⟩|⟨q,a1,⟨a2,rfl,rfl,rfl,rfl⟩|⟨a2,a3,rfl,rfl,rfl,rfl⟩⟩⟩<;>rcases p2 with⟨b,rfl,rfl,rfl,rfl⟩|⟨u2,b,⟨b1,rfl,rfl,rfl,rfl⟩|⟨q2,b1,⟨b2,rfl,rfl,rfl,rfl⟩|⟨b2,b3,rfl,rfl,rfl,rfl⟩⟩⟩<;>first|exact Ba|(rw[a]at b;cases b;done)|(rw[a]at b;cases b;first|exact Ba|(rw[a1]at b1;cases b1;done)|(rw[a1]at b1;cases b1;first|exact Ba|(exfalso;rcases a2 with h|h;exact h b2;rw[h]at b3;cases b3)|(exfalso;rcases b2 with h|h;exact h a2;rw[h]at a3;cases a3)))
 |k9 h p=>
  cases h2;all_goals try(exfalso;omega)
  rename_i h' p2;rcases p with⟨a,rfl,rfl,rfl,rfl⟩|⟨u,a,⟨a1,rfl,rfl,rfl,rfl⟩|⟨a1,a2,rfl,rfl,rfl,rfl⟩|⟨a1,a2,rfl,rfl,rfl,m1,m2,rfl⟩⟩<;>rcases p2 with⟨b,rfl,rfl,rfl,rfl⟩|⟨u2,b,⟨b1,rfl,rfl,rfl,rfl⟩|⟨b1,b2,rfl,rfl,rfl,rfl⟩|⟨b1,b2,rfl,rfl,rfl,n1,n2,rfl⟩⟩<;>first|exact Ba|(rw[a]at b;cases b;done)|(rw[a]at b;cases b;first|exact Ba|(rw[a1]at b1;cases b1;done)|exact absurd a2 b2|exact absurd b2 a2|exact⟨rfl,rfl,.refl _,WU ⟨rfl,rfl,rfl,rfl,⟨rfl,fun _ _=>⟨rfl,rfl⟩⟩,rfl,⟨rfl,fun _ _=>rfl⟩,⟨rfl,fun _ _=>rfl⟩,rfl,⟨rfl,fun _ _=>⟨rfl,rfl⟩⟩⟩⟩)
 |k10 h p=>
  cases h2;all_goals try(exfalso;omega)
  rename_i h' p2;rcases p with⟨a,rfl,rfl,rfl,rfl⟩|⟨u,a,⟨a1,rfl,rfl,rfl,rfl⟩|⟨a1,a2,rfl,rfl,rfl,rfl⟩|⟨a1,a2,rfl,rfl,rfl,m1,m2,rfl⟩⟩<;>rcases p2 with⟨b,rfl,rfl,rfl,rfl⟩|⟨u2,b,⟨b1,rfl,rfl,rfl,rfl⟩|⟨b1,b2,rfl,rfl,rfl,rfl⟩|⟨b1,b2,rfl,rfl,rfl,n1,n2,rfl⟩⟩<;>first|exact Ba|(rw[a]at b;cases b;done)|(rw[a]at b;cases b;first|exact Ba|(rw[a1]at b1;cases b1;done)|exact absurd a2 b2|exact absurd b2 a2|exact⟨rfl,rfl,.refl _,WU ⟨rfl,rfl,rfl,rfl,⟨rfl,fun _ _=>⟨rfl,rfl⟩⟩,rfl,⟨rfl,fun _ _=>rfl⟩,⟨rfl,fun _ _=>rfl⟩,rfl,⟨rfl,fun _ _=>⟨rfl,rfl⟩⟩⟩⟩)
 |k13 h p=>
  cases h2;all_goals try(exfalso;omega)
  rename_i h' p2;rcases p with⟨a,rfl,rfl,rfl,rfl⟩|⟨u,a,⟨a1,rfl,rfl,rfl,rfl⟩|⟨a1,a2,rfl,rfl,rfl,rfl⟩|⟨a1,a2,rfl,rfl,m1,m2,rfl,rfl⟩⟩<;>rcases p2 with⟨b,rfl,rfl,rfl,rfl⟩|⟨u2,b,⟨b1,rfl,rfl,rfl,rfl⟩|⟨b1,b2,rfl,rfl,rfl,rfl⟩|⟨b1,b2,rfl,rfl,n1,n2,rfl,rfl⟩⟩<;>first|exact Ba|(rw[a]at b;cases b;done)|(rw[a]at b;cases b;first|exact Ba|(rw[a1]at b1;cases b1;done)|exact absurd a2 b2|exact absurd b2 a2|exact⟨rfl,rfl,LX (.refl _),.refl _⟩)
 |k15 h p=>
  cases h2;all_goals try(exfalso;omega)
  rename_i h' p2;rcases p with⟨a,rfl,rfl,rfl,rfl⟩|⟨u,a,rfl,rfl,rfl,rfl⟩<;>rcases p2 with⟨b,rfl,rfl,rfl,rfl⟩|⟨u2,b,rfl,rfl,rfl,rfl⟩<;>first|exact Ba|(rw[a]at b;cases b;done)|(rw[a]at b;cases b;exact Ba)
theorem aA{k:Ar}(ok:BI k=true):∀i,i<k.on->0<=(k.O i).id/\(k.O i).id<=1000000:=fun i hi=>by
 have h:=BF.1 ok;by_cases h0:i=0
 ·subst h0;have r:=h.root;unfold E7 at r;simp only[Bool.and_eq_true,beq_iff_eq]at r;omega
 ·obtain⟨t,h1,h2,h3,h4⟩:=Ew h.thr (h.num i (by omega) hi);have f:=(CF h.thr).2.2 t h1;unfold DK at f;simp only[Bool.and_eq_true]at f;have g:=Is.1 f.1;have:=g.id;have:=g.made;omega
theorem Xr{x:Int}(h:0<=x/\x<=1000000):(Lit.int .i64 x).wf=true:=by
 have e1:IntKind.i64.min= -9223372036854775808:=by decide
 have e2:IntKind.i64.max=9223372036854775807:=by decide
 simp[Lit.wf,e1,e2];omega
theorem Sa(k:Ar)(w:World)(hk:k.at w)(ok:BI k=true)(s:Ak)(hs:s.at w):
 Calls prog 6 #[.agg #[.slice k.ta k.tn k.tk,.slice k.oa k.on k.ok],.agg #[s.th,s.kind,s.id,s.to,s.cat,.string s.data,s.b1,.slice s.c1.a s.c1.n s.c1.k,s.b2,.slice s.c2.a s.c2.n s.c2.k]] w fun e w'=>∃(lt:List Ac) (lo:List Ab) (lt':List Ac) (lo':List Ab) (ta:Option Addr) (ca:Nat) (oa:Option Addr) (co:Nat) (c:Int) (tx:ByteArray),e= .returned (.tuple #[.agg #[.slice ta lt'.length ca,.slice oa lo'.length co],.int .i64 c,.string tx])/\Cg w' w (.slice ta lt'.length ca) (.slice oa lo'.length co) lt' lo'/\Below w w w'/\k.same (DW none 0 none 0 lt lo)/\Ij lt lo s c tx lt' lo':=by
 have n1:No (.cells #[s.th,s.kind,s.id,s.to,s.cat,.string s.data,s.b1,.slice s.c1.a s.c1.n s.c1.k,s.b2,.slice s.c2.a s.c2.n s.c2.k] 44):=⟨⟩;have n3:Na #[.slice k.ta k.tn k.tk,.slice k.oa k.on k.ok]:=⟨⟩;have n4:No (.cells #[.slice none 0 0,.slice none 0 0] 36):=⟨⟩;have n2:Nw (((w.alloc (.cells n3 36)).alloc n1).alloc n4):=⟨⟩;have b0:Below w w n2:=(((Below.refl _ w).alloc (Nat.le_refl _) _).alloc (by simp) _).alloc (by simp;omega) _;have A0:Ah n2 w (.cells n3 36):=((Ah.new w _).alloc _).alloc _;have P0:Ah n2 (w.heap.size+1) n1:=by have:=(Ah.new (w.alloc (.cells n3 36)) n1).alloc n4;simpa using this
 have R0:Ah n2 (w.heap.size+1+1) n4:=by have:=Ah.new ((w.alloc (.cells n3 36)).alloc n1) n4;simpa using this
 have HK:=hid hk;have OK:=hid ok;have SA:=hid hs;have HB:=hid b0;have HA:=hid A0;have HP:=hid P0;have HR:=hid R0;clear b0 A0 P0 R0 hk ok hs;go_enter func6,ntmps6
 obtain⟨x0,x1⟩:=HA.out.two;obtain⟨s0,s1,s2,s3,s4,s5,s6,s7,s8,s9⟩:=HP.out.jE;go_wp2_with fail
 clear x0 x1 s0 s1 s2 s3 s4 s5 s6 s7 s8 s9;have S0:=hid HB.out.size;generalize (n2:World)=V at *;have C1:Hid (Calls prog 18 #[.agg n3] V fun e w'=>e= .returned (.bool true)/\Below V V w'):=hid (by
  have h:=Lp k V (HK.out.below HB) (fun i hi=>Xr (aA OK i hi));rw[OK.out]at h;exact h)
 refine C1.out.mono ?_;rintro e w1 ⟨rfl,hb1⟩;have B1:=hid hb1;have L1:=hid (Ae HB hb1);clear hb1;obtain⟨x0,x1⟩:=(HA.out.below B1).two;obtain⟨s0,s1,s2,s3,s4,s5,s6,s7,s8,s9⟩:=(HP.out.below B1).jE;go_wp2_with fail
 refine(Tc k w1 (HK.out.below L1) OK s (SA.out.below L1)).mono ?_;rintro e w2 ⟨lt,lo,lt',lo',ta,ca,oa,co,c,tx,rfl,k2,b2,sm,dp⟩;have K2:=hid (k2.base L1.out.size);have L2:=hid (Ae L1 b2);have SM:=hid sm;have DP:=hid dp;have RB:=hid ((HR.out.below B1).below b2);clear k2 b2 sm dp x0 x1 s0 s1 s2 s3 s4 s5 s6 s7 s8 s9;obtain⟨r0,r1⟩:=RB.out.two;have rf:=RB.out.jC;go_wp2;refine bodyPost_ret (Ai _ _ (w.heap.size+1+1) 4 _ _ _ _ Tryz.results6 ((RB.out.jB (i:=0) _).jB (i:=1) _) rfl rfl rfl) rfl ⟨lt,lo,lt',lo',ta,ca,oa,co,c,tx,rfl,?_,?_,SM,DP⟩
 ·exact(K2.out.set RB (.inl rfl) _).set (RB.out.jB (i:=0) _) (.inl rfl) _
 ·exact(L2.out.setCell (by dsimp only;omega) _).setCell (by dsimp only;omega) _
end Go.Proofs.YtmikapeeflcbfaaGreatDoor
