import Derived.Test.YtefoofaocbjdoaaGreatDoorDWVs
set_option maxRecDepth 100000
set_option maxHeartbeats 16000000
namespace Go.Proofs.YtefoofaocbjdoaaGreatDoor
open Go Go.RowKit Go.Deep Go.Extern.Stop Go.Stop Go.Extern Go.Proofs.Tryz
theorem Vz(t:Addr)(w:World):(ReflectliteValue.unpack (.iface 51 (.pointer (some t)))).run prog w
 = .ok (.agg #[.pointer (some ⟨18,51,none⟩),.pointer (w),.int .u64 150]) (w.alloc (.cells #[.pointer (some t)] 51)):=by kernel_rfl
theorem aP(a:Addr)(w:World):(ReflectliteValue.methodAny (ReflectliteValue.valueError "reflectlite.Value.Type" 0) (fun t _ _ _=>ReflectliteType.toType t) #[.agg #[.pointer (some ⟨18,51,none⟩),.pointer (some a),.int .u64 150]]).run prog w
 = .ok (.iface 130 (.agg #[.pointer (some ⟨18,51,none⟩)])) w:=by kernel_rfl
theorem YT(h:Value)(w:World):(Go.method 388 130 (.agg #[h]) "Kind").run prog w= .ok (215,h) w:=by kernel_rfl
theorem Xk(w:World):((ReflectliteType.abiMethod fun t=>(fun a:Nat=>Value.int IntKind.u8 (a:Int))<$>Rtype.kind t) #[.pointer (some ⟨18,51,none⟩)]).run prog w= .ok (.int .u8 22) w:=by kernel_rfl
theorem Xa(w:World):((ReflectliteType.abiMethod fun t=>(fun a:Nat=>Value.int IntKind.u8 (a:Int))<$>Rtype.kind t) #[.pointer (some ⟨18,49,none⟩)]).run prog w= .ok (.int .u8 22) w:=by kernel_rfl
theorem Td(z:Sem Value)(f:TypeId->Addr->Nat->Nat->Sem Value)(v:Value):
 ReflectliteValue.method z f #[v]=(do match <-ReflectliteValue.parts v with|none=>z|some (t,a,fl)=>f t a fl (fl%32)):=rfl
theorem Qb(a:Addr)(w:World):(ReflectliteValue.parts (.agg #[.pointer (some ⟨18,51,none⟩),.pointer (some a),.int .u64 150])).run prog w= .ok (some (51,a,150)) w:=by kernel_rfl
theorem Zk(a p:Addr)(W:World)(ha:W.cell? a=some (.pointer (some p))):
 (ReflectliteValue.method (ReflectliteValue.valueError "reflectlite.Value.IsNil" 0) ReflectliteValue.isNil #[.agg #[.pointer (some ⟨18,51,none⟩),.pointer (some a),.int .u64 150]]).run prog W= .ok (.bool false) W:=by
 rw[Td];simp only[Sem.run_bind,Qb,Result.andThen];simp[ReflectliteValue.isNil,loadVar,isAgg,underlying,underlying51,ha,Result.andThen]
theorem Zr(h:Value)(w:World):(Go.method 388 130 (.agg #[h]) "Elem").run prog w= .ok (227,.agg #[h]) w:=by kernel_rfl
theorem Zn(h:Value)(w:World):(Go.method 388 130 (.agg #[h]) "Implements").run prog w= .ok (228,.agg #[h]) w:=by kernel_rfl
theorem bu(h:Value)(w:World):(Go.method 388 130 (.agg #[h]) "AssignableTo").run prog w= .ok (225,.agg #[h]) w:=by kernel_rfl
theorem bf(w:World):(ReflectliteType.method ReflectliteType.elem #[.agg #[.pointer (some ⟨18,51,none⟩)]]).run prog w= .ok (.iface 130 (.agg #[.pointer (some ⟨18,49,none⟩)])) w:=by kernel_rfl
theorem bh(w:World):(ReflectliteType.relation "Implements" ReflectliteType.implements_ #[.agg #[.pointer (some ⟨18,49,none⟩)],.iface 130 (.agg #[.pointer (some ⟨18,45,none⟩)])]).run prog w= .ok (.bool true) w:=by kernel_rfl
theorem Xp(v:Value)(w:World):(ReflectliteType.typeOf #[.iface 49 v]).run prog w= .ok (.iface 130 (.agg #[.pointer (some ⟨18,49,none⟩)])) w:=by kernel_rfl
theorem bR(w:World):(ReflectliteType.relation "AssignableTo" ReflectliteType.assignableTo #[.agg #[.pointer (some ⟨18,49,none⟩)],.iface 130 (.agg #[.pointer (some ⟨18,49,none⟩)])]).run prog w= .ok (.bool true) w:=by kernel_rfl
theorem Rx(e:Addr)(w:World):(ReflectliteValue.unpack (.iface 49 (.pointer (some e)))).run prog w
 = .ok (.agg #[.pointer (some ⟨18,49,none⟩),.pointer (w),.int .u64 150]) (w.alloc (.cells #[.pointer (some e)] 49)):=by kernel_rfl
theorem Zg(w:World):(Rtype.elem? 51).run prog w= .ok (some 49) w:=by kernel_rfl
theorem cP(p:Addr)(w:World):(ReflectliteValue.mk 49 p ReflectliteValue.flagAddr).run prog w= .ok (.agg #[.pointer (some ⟨18,49,none⟩),.pointer (some p),.int .u64 406]) w:=by kernel_rfl
theorem Zs(a p:Addr)(W:World)(ha:W.cell? a=some (.pointer (some p))):
 (ReflectliteValue.method (ReflectliteValue.valueError "reflectlite.Value.Elem" 0) ReflectliteValue.elem #[.agg #[.pointer (some ⟨18,51,none⟩),.pointer (some a),.int .u64 150]]).run prog W
   = .ok (.agg #[.pointer (some ⟨18,49,none⟩),.pointer (some p),.int .u64 406]) W:=by
 rw[Td];simp only[Sem.run_bind,Qb,Result.andThen];simp[ReflectliteValue.elem,loadVar,isAgg,underlying,underlying51,ha,Result.andThen,Zg,cP]
theorem Uo(a:Addr)(w:World):(ReflectliteValue.parts (.agg #[.pointer (some ⟨18,49,none⟩),.pointer (some a),.int .u64 406])).run prog w= .ok (some (49,a,406)) w:=by kernel_rfl
theorem WC(a:Addr)(w:World):(ReflectliteValue.parts (.agg #[.pointer (some ⟨18,49,none⟩),.pointer (some a),.int .u64 150])).run prog w= .ok (some (49,a,150)) w:=by kernel_rfl
theorem Yr(w:World):(Rtype.directlyAssignable 49 49).run prog w= .ok true w:=by kernel_rfl
theorem ZW(v x:Value)(h1:Value->Value->Sem Value)(h2:Array Value->Sem Value):ReflectliteValue.set.match_3 (fun _=>Sem Value) #[v,x] h1 h2=h1 v x:=rfl
theorem bV(ta b e:Addr)(old:Value)(W:World)(hb:W.cell? b=some (.pointer (some e)))(ht:W.cell? ta=some old)(hf:W.frozen? ta=false):
 (ReflectliteValue.set #[.agg #[.pointer (some ⟨18,49,none⟩),.pointer (some ta),.int .u64 406],.agg #[.pointer (some ⟨18,49,none⟩),.pointer (some b),.int .u64 150]]).run prog W
   = .ok (.tuple #[]) (W.setCell ta (.pointer (some e))):=by
 delta ReflectliteValue.set;rw[ZW];simp only[Sem.run_bind,Uo,WC,Result.andThen];simp[ReflectliteValue.flagAddr,loadVar,isAgg,underlying,underlying49,hb,Result.andThen,Yr,storeVar,Value.cells,storeCells,Addr.add];rw[run_store prog W ta _ _ (by rfl)];simp[ht,hf]
def am(e t:Addr)(w:World):World:=((((w.alloc (.cells #[.pointer (some t)] 51)).alloc (.cells #[.pointer (some ⟨18,51,none⟩),.pointer (w),.int .u64 150] 103)).alloc (.cells #[.pointer (some ⟨18,51,none⟩),.pointer (w),.int .u64 150] 103)).alloc (.cells #[.pointer (some e)] 49)).setCell t (.pointer (some e))
theorem bg(e t:Addr)(old:Value)(w:World)(hg:w.cell? ⟨3,0,none⟩=some (.iface 130 (.agg #[.pointer (some ⟨18,45,none⟩)])))(ht0:w.cell? t=some old)(hf0:w.frozen? t=false):
 Calls prog 16 #[.iface 49 (.pointer (some e)),.iface 51 (.pointer (some t))] w fun ev w'=>ev= .returned (.bool true)/\w'=am e t w:=by
 have h60:=@run_callFunc_extern prog 48 _ (fun args=>ReflectliteValue.unpack (args.getD 0 (.tuple #[]))) func48 (by kernel_rfl) (by kernel_rfl) (by kernel_rfl) (by kernel_rfl);have h61:=@run_callFunc_extern prog 49 _ (ReflectliteValue.methodAny (ReflectliteValue.valueError "reflectlite.Value.Type" 0) (fun t _ _ _=>ReflectliteType.toType t)) func49 (by kernel_rfl) (by kernel_rfl) (by kernel_rfl) (by kernel_rfl);have h62:=@run_callFunc_extern prog 50 _ (ReflectliteValue.method (ReflectliteValue.valueError "reflectlite.Value.IsNil" 0) ReflectliteValue.isNil) func50 (by kernel_rfl) (by kernel_rfl) (by kernel_rfl) (by kernel_rfl);have h243:=@run_callFunc_extern prog 215 _ (ReflectliteType.abiMethod fun t=>do pure (.int .u8 (<-Rtype.kind t))) func215 (by kernel_rfl) (by kernel_rfl) (by kernel_rfl) (by kernel_rfl);have h254:=@run_callFunc_extern prog 227 _ (ReflectliteType.method ReflectliteType.elem) func227 (by kernel_rfl) (by kernel_rfl) (by kernel_rfl) (by kernel_rfl);have h255:=@run_callFunc_extern prog 228 _ (ReflectliteType.relation "Implements" ReflectliteType.implements_) func228 (by kernel_rfl) (by kernel_rfl) (by kernel_rfl) (by kernel_rfl);have h58:=@run_callFunc_extern prog 46 _ ReflectliteType.typeOf func46 (by kernel_rfl) (by kernel_rfl) (by kernel_rfl) (by kernel_rfl);have h252:=@run_callFunc_extern prog 225 _ (ReflectliteType.relation "AssignableTo" ReflectliteType.assignableTo) func225 (by kernel_rfl) (by kernel_rfl) (by kernel_rfl) (by kernel_rfl);have h116:=@run_callFunc_extern prog 79 _ (ReflectliteValue.method (ReflectliteValue.valueError "reflectlite.Value.Elem" 0) ReflectliteValue.elem) func79 (by kernel_rfl) (by kernel_rfl) (by kernel_rfl) (by kernel_rfl);have h117:=@run_callFunc_extern prog 80 _ ReflectliteValue.set func80 (by kernel_rfl) (by kernel_rfl) (by kernel_rfl) (by kernel_rfl);have l1:=Xp;have l2:=bu;have l3:=bR;have l4:=Rx;have l5:=Vz;have l6:=aP;have l7:=YT;have l8:=Zr;have l9:=Zn;have l10:=Xk;have l11:=Xa;have l12:=bf;have l13:=bh;have n1:No (.cells #[.pointer (some ⟨18,51,none⟩),.pointer (w),.int .u64 150] 103):=⟨⟩;have n2:Nw ((w.alloc (.cells #[.pointer (some t)] 51)).alloc n1):=⟨⟩;have n8:=Zk ⟨w,0,none⟩ t n2 (by simp);have hlt:3<w.heap.size:=by
  rcases Nat.lt_or_ge 3 w with h|h
  ·exact h
  ·simp[World.cell?,Array.getElem?_eq_none h]at hg
 have hg2:(n2:World).cell? ⟨3,0,none⟩=some (.iface 130 (.agg #[.pointer (some ⟨18,45,none⟩)])):=by
  rw[World.cell?_alloc_lt _ _ ⟨3,0,none⟩ (by simp;omega),World.cell?_alloc_lt _ _ ⟨3,0,none⟩ hlt];exact hg
 have htl:t.block<w.heap.size:=by
  rcases Nat.lt_or_ge t.block w with h|h
  ·exact h
  ·simp[World.cell?,Array.getElem?_eq_none h]at ht0
 have el:=Zs ⟨w,0,none⟩ t ((n2:World).alloc n1) (by rw[World.cell?_alloc_lt _ _ ⟨w,0,none⟩ (by simp;omega)];simp);have st:=bV t ⟨w.heap.size+1+1+1,0,none⟩ e old (((n2:World).alloc n1).alloc (.cells #[.pointer (some e)] 49))
  (by rw[World.cell?_alloc_at _ _ _ _ (by simp)];rfl)
  (by rw[World.cell?_alloc_lt _ _ t (by simp;omega),World.cell?_alloc_lt _ _ t (by simp;omega),World.cell?_alloc_lt _ _ t (by simp;omega),World.cell?_alloc_lt _ _ t htl];exact ht0)
  (by rw[World.frozen?_alloc_old _ _ t (by simp;omega),World.frozen?_alloc_old _ _ t (by simp;omega),World.frozen?_alloc_old _ _ t (by simp;omega),World.frozen?_alloc_old _ _ t (Nat.ne_of_lt htl)];exact hf0)
 unfold am;go_enter func16,ntmps16
 go_wp2;refine wp_loop_rounds 1 ?_;rw[rounds_succ];go_wp2;go_ret;exact⟨rfl,rfl⟩
open Go.Maps Go.BigFrame Go.Shelf
def XZ(w:World)(E:Nat->Addr):Prop:=(∀i,i<14->i≠3->i≠0->E i≠E 0)/\(∀i,i<14->i≠3->∃ca ta,w.heap[(E i).block]? =some (.cells ca ta (0,0)))/\w.cell? ⟨3,0,none⟩=some (.iface 130 (.agg #[.pointer (some ⟨18,45,none⟩)]))/\17<w.heap.size
theorem XZ.below{w w':World}{E:Nat->Addr}(h:XZ w E)(hb:Below w.heap.size w w'):XZ w' E:=by
 refine⟨h.1,fun i h1 h2=>?_,?_,Nat.lt_of_lt_of_le h.2.2.2 hb.size⟩
 ·obtain⟨ca,ta,hc⟩:=h.2.1 i h1 h2;exact⟨ca,ta,(hb.block _ (Array.getElem?_eq_some_iff.1 hc).1).trans hc⟩
 ·exact(hb.cell (p:=⟨3,0,none⟩) (by have:=h.2.2.2;show 3<_;omega)).trans h.2.2.1
theorem XQ(e:Addr)(tb:Nat)(w:World):w.grownBy (am e ⟨tb,0,none⟩ w) (some tb):=by
 unfold am;refine Aq (Fy ⟨rfl,rfl,rfl,Nat.le_refl _,fun _ _ _=>rfl⟩ ?_) _ _;exact(((Be w _).alloc (by simp) _).alloc (by simp;omega) _).alloc (by simp;omega) _
theorem bD{e:Addr}{tb:Nat}{w:World}(h:Ah w tb (.cells #[.pointer none] 49)):Ah (am e ⟨tb,0,none⟩ w) tb (.cells #[.pointer (some e)] 49):=by
 unfold am;exact((((h.alloc _).alloc _).alloc _).alloc _).jB (i:=0) _
theorem Ah.c1{W:World}{P t:Nat}{x:Value}(h:Ah W P (.cells #[x] t)):W.cell? ⟨P,0,none⟩=some x:=by
 unfold Ah at h;simp[World.cell?,h]
def Kq(l l2:List Ae):Prop:=l2.length=l.length/\∀j,j<l.length->(AY l j).same (AY l2 j)
theorem Kq.refl(l:List Ae):Kq l l:=⟨rfl,fun _ _=>Gx _⟩
def Ye(k:Ax)(s:Al)(w:World)(e:Ending)(w':World):Prop:=
 Below w.heap.size w w'/\∃(kv:Value) (c:Int) (tx:ByteArray),e= .returned (.tuple #[kv,.int .i64 c,.string tx])/\
 ((Bd k=false/\kv= .agg #[.slice none 0 0,.slice none 0 0]/\c=1/\tx=⟨#[]⟩)∨
  (Bd k=true/\∃(lt:List Ae) (lo:List Ab) (lt' lt2:List Ae) (lo' lo2:List Ab) (ta oa:Option Addr) (ca co:Nat),k.same (Cp none 0 none 0 lt lo)/\kv= .agg #[.slice ta lt'.length ca,.slice oa lo'.length co]/\Hg w' w.heap.size (.slice ta lt'.length ca) (.slice oa lo'.length co) lt' lo'/\Apart lt' lo'/\Kq lt' lt2/\II lo' lo2/\Gb lt lo s c tx lt2 lo2))
theorem Ip(tmps:Array Value)(W:World)(P:Nat)(x y v5 v6:Value)(h:Ah W P (.cells #[x,y] 27))(h4:tmps[4]? =some (.pointer P))(h5:tmps[5]? =some v5)(h6:tmps[6]? =some v6):
 (results Tryz.f6 tmps).run prog W= .ok (.tuple #[.agg #[x,y],v5,v6]) W:=by
 obtain⟨z0,z1⟩:=h.two;simp[results,Tryz.results6,go_sem,h4,h5,h6,z0,z1]
theorem Zh{k:Ax}{lt lt2:List Ae}{lo lo2:List Ab}{ta oa:Option Addr}{ca co:Nat}(h:k.same (Cp ta ca oa co lt lo))(h2:k.same (Cp none 0 none 0 lt2 lo2)):Kq lt lt2/\II lo lo2:=by
 refine⟨⟨h2.1.trans h.1.symm,fun j hj=>?_⟩,h2.2.2.1.trans h.2.2.1.symm,fun j hj=>?_⟩
 ·have hj':j<k.tn:=by have e:lt.length=k.tn:=h.1;omega
  have a:(k.T j).same (AY lt j):=h.2.1 j hj';have b:(k.T j).same (AY lt2 j):=h2.2.1 j hj';obtain⟨a1,a2,a3,a4,a5,a6,a7⟩:=a;obtain⟨b1,b2,b3,b4,b5,b6,b7⟩:=b;exact⟨b1.trans a1.symm,b2.trans a2.symm,⟨b3.1.trans a3.1.symm,b3.2.1.trans a3.2.1.symm,b3.2.2.trans a3.2.2.symm⟩,b4.trans a4.symm,⟨b5.1.trans a5.1.symm,b5.2.1.trans a5.2.1.symm,b5.2.2.trans a5.2.2.symm⟩,⟨b6.1.trans a6.1.symm,b6.2.trans a6.2.symm⟩,b7.trans a7.symm⟩
 ·have hj':j<k.on:=by have e:lo.length=k.on:=h.2.2.1;omega
  have a:(k.O j).same (Aa lo j):=h.2.2.2 j hj';have b:(k.O j).same (Aa lo2 j):=h2.2.2.2 j hj';obtain⟨a1,a2,a3,a4,a5,a6,a7,a8,a9,a10⟩:=a;obtain⟨b1,b2,b3,b4,b5,b6,b7,b8,b9,b10⟩:=b;exact⟨b1.trans a1.symm,b2.trans a2.symm,b3.trans a3.symm,b4.trans a4.symm,⟨b5.1.trans a5.1.symm,b5.2.1.trans a5.2.1.symm,b5.2.2.trans a5.2.2.symm⟩,b6.trans a6.symm,⟨b7.1.trans a7.1.symm,b7.2.trans a7.2.symm⟩,⟨b8.1.trans a8.1.symm,b8.2.trans a8.2.symm⟩,b9.trans a9.symm,⟨b10.1.trans a10.1.symm,b10.2.1.trans a10.2.1.symm,b10.2.2.trans a10.2.2.symm⟩⟩
theorem Rh(E:Nat->Addr)(k:Ax)(s:Al)(hr:YF E s)(w:World)(hk:k.at w)(hs:s.at w)(hcap:k.on<=k.ok)(hw:∀i,i<k.on->(Lit.int .i64 (k.O i).id).wf=true/\(Lit.int .i64 (k.O i).up).wf=true)(he:Ks w E)(hE:XZ w E)(tab:Rl w):
 Calls prog 6 #[.agg #[.slice k.ta k.tn k.tk,.slice k.oa k.on k.ok],.agg s] w fun e w'=>Ye k s w e w':=by
 have n10:No (.cells s 32):=⟨⟩;have n13:No (.cells #[.slice k.ta k.tn k.tk,.slice k.oa k.on k.ok] 27):=⟨⟩;have n9:Nw ((w.alloc n13).alloc n10):=⟨⟩;have n11:No (.cells #[.slice none 0 0,.slice none 0 0] 27):=⟨⟩;have b0:Below w.heap.size w ((n9:World).alloc n11):=((Be w _).alloc (by simp) _).alloc (by simp;omega) _;have f0:Ah ((n9:World).alloc n11) w.heap.size n13:=((Ah.new w _).alloc _).alloc _;have f1:Ah ((n9:World).alloc n11) (w.heap.size+1) n10:=by
  have h:=(Ah.new (w.alloc n13) n10).alloc n11;rw[show(w.alloc n13).heap.size=w.heap.size+1 from by simp]at h;exact h
 have f2:Ah ((n9:World).alloc n11) (w.heap.size+2) n11:=by
  have h:=Ah.new n9 n11;rw[show(n9:World).heap.size=w.heap.size+2 from by simp]at h;exact h
 have h19:=hE.2.2.2;have h14:14<=w.heap.size:=by omega
 have DN:=hid (Yf E k s hr ((n9:World).alloc n11) (hk.below b0) (hs.below b0) hcap hw (he.below h14 b0) (by have:=b0.size;omega) (tab.below b0));have B0:=hid b0;have F0:=hid f0;have F2:=hid f2;have HK:=hid hk;have HE:=hid he;have HB:=hid hE;obtain⟨x0,x1⟩:=f0.two;obtain⟨y0,y1,y2,y3,y4,y5,y6,y7,y8,y9⟩:=f1.jE;clear b0 f0 f1 f2 hk hs he hE tab hr;go_enter func6,ntmps6
 go_wp2_with fail
 clear x0 x1 y0 y1 y2 y3 y4 y5 y6 y7 y8 y9;generalize ((n9:World).alloc n11)=w0 at *;refine DN.out.mono ?_;rintro e w1 ⟨kv,tx,v,rfl,b1,⟨ga,qa,n1,n2,c1,c2,rfl⟩,hh⟩;have n12:No (.cells #[.slice ga n1 c1,.slice qa n2 c2] 27):=⟨⟩;have b2:=(Below.refl _ w1).alloc nr n12;have AA:=hid (Af B0.out b1);have A2:=hid (Af AA.out b2);have G0:=hid ((F0.out.below b1).below b2);have G2:=hid ((F2.out.below b1).below b2);have G7:=hid (Ah.new w1 n12);have BB:=hid b2;have z1:w.heap.size+2<w1.heap.size:=(F2.out.below b1).lt;have e0:=(HE.out.below h14 A2.out 0 (by omega) (by omega)).1;have s0:w.heap.size+2<w0.heap.size:=F2.out.lt;have HH:=hid hh;clear b1 b2 F0 F2 DN hh;rcases HH.out with⟨nk,r,rfl,br⟩|⟨ok,c,lt,lo,told,hc,sm,dp⟩|⟨ok,rfl,lt,lo,lt',lo',lo2,g,ca,q,co,sm,ekv,ks,ap,so,dp⟩
 ·have IS:=hid (aO r 1 (E 0) (w1.alloc n12) (br.below BB.out));have NK:=hid nk;clear nk br HH;go_wp2_with fail
  generalize w1.alloc n12=w2 at *;refine IS.out.mono ?_;rintro e w3 ⟨rfl,hw3⟩;have hw4:=hw3.symm;subst hw4;clear hw3 IS;obtain⟨r0,r1⟩:=G2.out.two;have rf:=G2.out.jC;go_wp2;have gq:=Hi w2 (w.heap.size+2) (.slice none 0 0) (.slice none 0 0);have bb:Below w.heap.size w ((w2.setCell ⟨w.heap.size+2,0,none⟩ (.slice none 0 0)).setCell ⟨w.heap.size+2,1,none⟩ (.slice none 0 0)):=A2.out.trans (below_grown gq A2.out.size (fun j e=>by have:=Option.some.inj e;omega));exact bodyPost_ret (Ip _ _ (w.heap.size+2) (.slice none 0 0) (.slice none 0 0) _ _ ((G2.out.jB (i:=0) _).jB (i:=1) _) rfl rfl rfl) rfl ⟨bb,_,_,_,rfl,.inl ⟨NK.out,rfl,rfl,rfl⟩⟩
 ·rcases told with⟨h0,_⟩|⟨_,r,i,rfl,br,i0,i14,i3,rl⟩
  ·exact absurd h0 hc
  have br2:=br.below BB.out;obtain⟨ca0,ta0,hca⟩:=(HB.out.below A2.out).2.1 i i14 i3;obtain⟨cb0,tb0,hcb⟩:=(HB.out.below A2.out).2.1 0 (by omega) (by omega);have IS:=hid (aL r c (E i) (E 0) ca0 cb0 ta0 tb0 (w1.alloc n12) br2 (HB.out.1 i i14 i3 i0) hca hcb);have BR:=hid br2;have SM:=hid sm;have DP:=hid dp;have OK:=hid ok;have HB2:=hid (HB.out.below A2.out);have w1l:w1.heap.size<(w1.alloc n12).heap.size:=by simp
  have rlt:r<w1.heap.size:=br.lt;clear hca hcb br br2 sm dp ok HH;go_wp2_with fail
  generalize w1.alloc n12=w2 at *;refine IS.out.mono ?_;rintro e w3 ⟨rfl,hw3⟩;have hw4:=hw3.symm;subst hw4;clear hw3 IS;have n14:No (.cells #[.pointer none] 49):=⟨⟩;have b3:=(Below.refl _ w2).alloc nr n14;have t3:=Ah.new w2 n14;have tc:(w2.alloc n14).cell? ⟨w2.heap.size,0,none⟩=some (.pointer none):=t3.c1;have AS:=hid (bg ⟨r,0,none⟩ ⟨w2.heap.size,0,none⟩ (.pointer none) (w2.alloc n14) (HB2.out.below b3).2.2.1 tc (t3.jC _));have gr:=XQ ⟨r,0,none⟩ w2.heap.size (w2.alloc n14);have gw:w2.grownBy (am ⟨r,0,none⟩ ⟨w2.heap.size,0,none⟩ (w2.alloc n14)) none:=⟨gr.os,gr.tape,gr.output,Nat.le_trans b3.size gr.size,fun j hj _=>(gr.block j (Nat.lt_of_lt_of_le hj b3.size) (fun e=>by have:=Option.some.inj e;omega)).trans (b3.block j hj)⟩;have bA:Below w2.heap.size w2 (am ⟨r,0,none⟩ ⟨w2.heap.size,0,none⟩ (w2.alloc n14)):=below_grown gw nr (fun j e=>by cases e);have TT:=hid (bD (e:=⟨r,0,none⟩) t3);have A4:=hid (Af A2.out bA);have H0:=hid (G0.out.below bA);have H2:=hid (G2.out.below bA);have R4:=hid (BR.out.below bA);clear b3 t3 tc gr gw bA;go_wp2_with fail
  refine AS.out.mono ?_;rintro e w4 ⟨rfl,hw4⟩;rw[<-hw4]at TT A4 H0 H2 R4;clear hw4 AS;have EK:Hid (∀args w,(callFunc 17 args).run prog w= .ok (.enter 17 args) w):=hid (enters_of func17 (by kernel_rfl) rfl);have PK:Hid (Calls prog 17 #[.agg #[.slice k.ta k.tn k.tk,.slice k.oa k.on k.ok]] w4.drew fun e w'=>∃v,e= .returned v/\∃(lt:List Ae) (lo:List Ab) (ta oa:Option Addr) (ca co:Nat),v= .agg #[.slice ta lt.length ca,.slice oa lo.length co]/\By w' w4.heap.size (.slice ta lt.length ca) (.slice oa lo.length co) lt lo/\Apart lt lo/\k.same (Cp ta ca oa co lt lo)/\Below w4.heap.size w4.drew w'):=hid ((Ik k w4.drew ((HK.out.below A4.out).below (Below.refl _ w4).drew) (Ll OK.out)).mono fun e w' hh=>by
   obtain⟨lt,lo,ta,oa,ca,co,rfl,h1,h2,_,h4,h5⟩:=hh;exact⟨_,rfl,lt,lo,ta,oa,ca,co,rfl,h1,h2,h4,h5⟩)
  go_upto_region 6 with fail
  obtain⟨x0,x1⟩:=(show Ah w4.drew w.heap.size _ from H0.out).two;obtain⟨r0,r1⟩:=(show Ah w4.drew (w.heap.size+2) _ from H2.out).two;have rf:=(show Ah w4.drew (w.heap.size+2) _ from H2.out).jC;have t0:w4.drew.cell? ⟨w2.heap.size,0,none⟩=some (.pointer r):=Ah.c1 (show Ah w4.drew w2.heap.size _ from TT.out);obtain⟨q0,q1⟩:=(show Ah w4.drew r _ from R4.out).two;have n1:¬r=w.heap.size+1+1:=by omega
  have n2:¬w.heap.size+1+1=r:=by omega
  have n3:¬r=w.heap.size+2:=by omega
  have n4:¬w.heap.size+2=r:=by omega
  have n5:¬w2.heap.size=w.heap.size+1+1:=by omega
  have n6:¬w.heap.size+1+1=w2.heap.size:=by omega
  have n7:¬w2.heap.size=w.heap.size+2:=by omega
  have n8:¬w.heap.size+2=w2.heap.size:=by omega
  go_region_law(refine Em (by rfl) 17 _ _ (by rfl) EK.out _ (by rfl) _ PK.out ?_;rintro v w5 ⟨lt5,lo5,ta,oa,ca,co,rfl,ks,ap,sm,b5⟩;have b5':Below w4.heap.size w4 w5:=Af (Below.refl w4.heap.size w4).drew b5;have K5:=hid ks;have AP5:=hid ap;have SM5:=hid sm;have A5:=hid (Af A4.out b5');have J2:=hid (H2.out.below b5');have JT:=hid (TT.out.below b5');have JR:=hid (R4.out.below b5');obtain⟨u0,u1⟩:=J2.out.two;have uf:=J2.out.jC;have v0:w5.cell? ⟨w2.heap.size,0,none⟩=some (.pointer r):=JT.out.c1;obtain⟨m0,m1⟩:=JR.out.two;clear ks ap sm b5 b5')
  all_goals(
   go_wp2;have n17:Nv (.slice ta lt5.length ca):=⟨⟩;have n18:Nv (.slice oa lo5.length co):=⟨⟩;have gq:=Hi w5 (w.heap.size+2) n17 n18;have bb:Below w.heap.size w ((w5.setCell ⟨w.heap.size+2,0,none⟩ n17).setCell ⟨w.heap.size+2,1,none⟩ n18):=A5.out.trans (below_grown gq A5.out.size (fun j e=>by have:=Option.some.inj e;omega));have tw:=Zh SM5.out SM.out;have w4l:w.heap.size+2<w4.heap.size:=H2.out.lt;exact bodyPost_ret (Ip _ _ (w.heap.size+2) n17 n18 _ _ ((J2.out.jB (i:=0) _).jB (i:=1) _) rfl rfl rfl) rfl ⟨bb,_,_,_,rfl,.inr ⟨OK.out,lt,lo,lt5,lt,lo5,lo,ta,oa,ca,co,SM.out,rfl,(K5.out.f.past gq (by omega)).base (by omega),AP5.out,tw.1,tw.2,DP.out⟩⟩)
 ·have OK:=hid ok;have SM:=hid sm;have KS:=hid (ks.below BB.out);have AP:=hid ap;have SO:=hid so;have DP:=hid dp;have EKV:=hid ekv;clear ekv;have n16:No (.cells #[.slice ga n1 c1,.slice qa n2 c2] 27):=⟨⟩;have IS:=hid (ZY 257 (.pointer (some (E 0))) (w1.alloc n16));clear ok sm ks ap so dp HH;go_wp2_with fail
  generalize w1.alloc n16=w2 at *;refine IS.out.mono ?_;rintro e w3 ⟨rfl,hw3⟩;have hw4:=hw3.symm;subst hw4;clear hw3 IS;have n15:No (.cells #[.pointer none] 49):=⟨⟩;have b3:=(Below.refl _ w2).alloc nr n15;have A4:=hid (Af A2.out b3);have H2:=hid (G2.out.below b3);have H7:=hid (G7.out.below b3);have K4:=hid (KS.out.below b3);have AS:=hid (YV (.iface 51 (.pointer (w2.heap.size))) (w2.alloc n15));clear b3;go_wp2_with fail
  generalize w2.alloc n15=w4 at *;refine AS.out.mono ?_;rintro e w5 ⟨rfl,hw5⟩;have hw6:=hw5.symm;subst hw6;clear hw5 AS;obtain⟨r0,r1⟩:=H2.out.two;have rf:=H2.out.jC;obtain⟨x0,x1⟩:=H7.out.two;go_wp2;have gq:=Hi w4 (w.heap.size+2) (.slice ga n1 c1) (.slice qa n2 c2);have bb:Below w.heap.size w ((w4.setCell ⟨w.heap.size+2,0,none⟩ (.slice ga n1 c1)).setCell ⟨w.heap.size+2,1,none⟩ (.slice qa n2 c2)):=A4.out.trans (below_grown gq A4.out.size (fun j e=>by have:=Option.some.inj e;omega));have KF:=(K4.out.past gq s0).base (show w.heap.size<=w0.heap.size by omega);refine bodyPost_ret (Ip _ _ (w.heap.size+2) (.slice ga n1 c1) (.slice qa n2 c2) _ _ ((H2.out.jB (i:=0) _).jB (i:=1) _) rfl rfl rfl) rfl ⟨bb,_,_,_,rfl,.inr ⟨OK.out,lt,lo,lt',lt',lo',lo2,some ⟨g,0,none⟩,some ⟨q,0,none⟩,ca,co,SM.out,?_,KF,AP.out,Kq.refl _,SO.out,DP.out⟩⟩;exact EKV.out
theorem RI(k:Ax)(w:World)(hk:k.at w)(ok:Bd k=false)(hw:∀i,i<k.on->(Lit.int .i64 (k.O i).id).wf=true)(s:Al):
 Calls prog 7 #[.agg #[.slice k.ta k.tn k.tk,.slice k.oa k.on k.ok],.agg s] w fun e w'=>e= .returned (.tuple #[.agg #[.slice none 0 0,.slice none 0 0],.int .i64 1,.string ⟨#[]⟩])/\Below w w w':=by
 have n1:No (.cells s 32):=⟨⟩;have n3:Na #[.slice k.ta k.tn k.tk,.slice k.oa k.on k.ok]:=⟨⟩;have n4:No (.cells #[.slice none 0 0,.slice none 0 0] 27):=⟨⟩;have n2:Nw (((w.alloc (.cells n3 27)).alloc n1).alloc n4):=⟨⟩;have b0:Below w w n2:=((Be w _).alloc (by simp) _).alloc (by simp;omega) _;have A0:Ah n2 w (.cells n3 27):=((Ah.new w _).alloc _).alloc _;have P0:Ah n2 (w.heap.size+1) n1:=by have:=(Ah.new (w.alloc (.cells n3 27)) n1).alloc n4;simpa using this
 have R0:Ah n2 (w.heap.size+1+1) n4:=by have:=Ah.new ((w.alloc (.cells n3 27)).alloc n1) n4;simpa using this
 have HK:=hid hk;have OK:=hid ok;have HB:=hid b0;have HA:=hid A0;have HP:=hid P0;have HR:=hid R0;clear b0 A0 P0 R0 hk ok;go_enter func7,ntmps7
 obtain⟨x0,x1⟩:=HA.out.two;obtain⟨s0,s1,s2,s3,s4,s5,s6,s7,s8,s9⟩:=HP.out.jE;go_wp2_with fail
 clear x0 x1 s0 s1 s2 s3 s4 s5 s6 s7 s8 s9;have S0:=hid HB.out.size;generalize (n2:World)=V at *;have C1:Hid (Calls prog 18 #[.agg n3] V fun e w'=>e= .returned (.bool false)/\Below V V w'):=hid (by
  have h:=Jh k V (HK.out.below HB) hw;rw[OK.out]at h;exact h)
 refine C1.out.mono ?_;rintro e w1 ⟨rfl,hb1⟩;have B1:=hid hb1;have L1:=hid (Af HB hb1);clear hb1;have RB:=hid (HR.out.below B1);obtain⟨r0,r1⟩:=RB.out.two;have rf:=RB.out.jC;go_wp2;refine bodyPost_ret (Ak _ _ (w.heap.size+1+1) 4 _ _ _ _ Tryz.results7 ((RB.out.jB (i:=0) _).jB (i:=1) _) rfl rfl rfl) rfl ⟨rfl,?_⟩;exact(L1.out.setCell (by dsimp only;omega) _).setCell (by dsimp only;omega) _
variable {l m lt lt2:List Ae}{k:Ax}{lo lo2:List Ab}
theorem SC.of_nm(h:SC (l.map Ae.nm) (m.map Ae.nm)):SC l m:=
 ⟨by simpa using h.1,fun j hj=>by
   have e:=h.2 j (by simpa using hj);rw[YJ,YJ]at e;exact e⟩
theorem Rn.of_nm{l m:List Ab}(h:Rn (l.map Ab.nm) (m.map Ab.nm)):Rn l m:=
 ⟨by simpa using h.1,fun j hj=>by
   have e:=h.2 j (by simpa using hj);rw[Ia,Ia]at e;exact e⟩
theorem Xm{x y z:Ae}(a:x.same y)(b:x.same z):y.nm=z.nm:=by
 obtain⟨a1,a2,a3,a4,a5,a6,a7⟩:=a;obtain⟨b1,b2,b3,b4,b5,b6,b7⟩:=b;unfold Ae.nm Au.nm AI.nm;rw[a1,b1,a2,b2,a3.1,b3.1,a3.2.1,b3.2.1,a3.2.2,b3.2.2,a4,b4,a5.1,b5.1,a5.2.1,b5.2.1,a5.2.2,b5.2.2,a6.1,b6.1,a6.2,b6.2,a7,b7]
theorem X8{x y z:Ab}(a:x.same y)(b:x.same z):y.nm=z.nm:=by
 obtain⟨a1,a2,a3,a4,a5,a6,a7,a8,a9,a10⟩:=a;obtain⟨b1,b2,b3,b4,b5,b6,b7,b8,b9,b10⟩:=b;unfold Ab.nm Au.nm AI.nm AF.nm;rw[a1,b1,a2,b2,a3,b3,a4,b4,a5.1,b5.1,a5.2.1,b5.2.1,a5.2.2,b5.2.2,a6,b6,a7.1,b7.1,a7.2,b7.2,a8.1,b8.1,a8.2,b8.2,a9,b9,a10.1,b10.1,a10.2.1,b10.2.1,a10.2.2,b10.2.2]
theorem Tr(e:m.length=l.length)(h:∀j,j<l.length->(AY l j).nm=(AY m j).nm):l.map Ae.nm=m.map Ae.nm:=by
 refine List.ext_getElem (by simp[e]) fun j h1 h2=>?_;simp only[List.length_map]at h1 h2;have:=h j h1;rw[List.getElem_map,List.getElem_map];unfold AY at this;rw[List.getD_eq_getElem?_getD,List.getD_eq_getElem?_getD,List.getElem?_eq_getElem h1,List.getElem?_eq_getElem h2]at this;exact this
theorem Tk{l m:List Ab}(e:m.length=l.length)(h:∀j,j<l.length->(Aa l j).nm=(Aa m j).nm):l.map Ab.nm=m.map Ab.nm:=by
 refine List.ext_getElem (by simp[e]) fun j h1 h2=>?_;simp only[List.length_map]at h1 h2;have:=h j h1;rw[List.getElem_map,List.getElem_map];unfold Aa at this;rw[List.getD_eq_getElem?_getD,List.getD_eq_getElem?_getD,List.getElem?_eq_getElem h1,List.getElem?_eq_getElem h2]at this;exact this
theorem Xu(h:k.same (Cp none 0 none 0 lt lo))(h2:k.same (Cp none 0 none 0 lt2 lo2)):lt.map Ae.nm=lt2.map Ae.nm/\lo.map Ab.nm=lo2.map Ab.nm:=by
 refine⟨Tr (h2.1.trans h.1.symm) fun j hj=>?_,Tk (h2.2.2.1.trans h.2.2.1.symm) fun j hj=>?_⟩
 ·have hj':j<k.tn:=by have e:lt.length=k.tn:=h.1;omega
  exact Xm (h.2.1 j hj') (h2.2.1 j hj')
 ·have hj':j<k.on:=by have e:lo.length=k.on:=h.2.2.1;omega
  exact X8 (h.2.2.2 j hj') (h2.2.2.2 j hj')
theorem Uz{s:Al}{lt' lt2':List Ae}{lo' lo2':List Ab}{c c2:Int}{tx tx2:ByteArray}(h:k.same (Cp none 0 none 0 lt lo))(h2:k.same (Cp none 0 none 0 lt2 lo2))(p:Gb lt lo s c tx lt' lo')(p2:Gb lt2 lo2 s c2 tx2 lt2' lo2'):Vg c c2 tx tx2 lt' lt2' lo' lo2':=by
 obtain⟨et,eo⟩:=Xu h h2;have ea:Tb lt s.th=Tb lt2 s.th:=by rw[<-Vi lt,<-Vi lt2,et]
 have s1:SC lt lt2:= .of_nm (by rw[et];exact .refl _);have s2:Rn lo lo2:= .of_nm (by rw[eo];exact .refl _);cases p with
 |form a hc ht e1 e2=>
  cases p2 with
  |form a' hc' ht' e1' e2'=>exact⟨hc'.trans hc.symm,ht'.trans ht.symm,by rw[e1,e1'];exact s1,by rw[e2,e2'];exact s2⟩
  |thread a'=>rw[a]at a';cases a'
  |act a'=>rw[a]at a';cases a'
 |thread a hn hc ht e1 e2=>
  cases p2 with
  |form a'=>rw[a]at a';cases a'
  |thread a' hn' hc' ht' e1' e2'=>exact⟨hc'.trans hc.symm,ht'.trans ht.symm,by rw[e1,e1'];exact s1,by rw[e2,e2'];exact s2⟩
  |act a' t ht' hn' p2=>rw[<-ea,hn]at hn';cases hn'
 |act a t ht hn p=>
  cases p2 with
  |form a'=>rw[a]at a';cases a'
  |thread a' hn'=>rw[<-ea,hn]at hn';cases hn'
  |act a' t' ht' hn' p2=>
   rw[<-ea,hn]at hn';cases hn';have q:=Xc p;have q2:=Xc p2;have ex:lt[t].nm=lt2[t].nm:=by
    have e:(lt.map Ae.nm)[t]? =(lt2.map Ae.nm)[t]?:=(by rw[et]);rw[List.getElem?_map,List.getElem?_map,List.getElem?_eq_getElem ht,List.getElem?_eq_getElem ht']at e;exact Option.some.inj e
   rw[<-ex,<-et,<-eo]at q2;obtain⟨z1,z2,z3,z4⟩:=Wq q q2;exact⟨z1,z2,.of_nm z3,.of_nm z4⟩
theorem SC.after{n:List Ae}(h:Kq l m)(h2:SC m n):SC l n:=⟨h2.1.trans h.1,fun j hj=>by
 have e:=h2.2 j (by rw[h.1];exact hj);obtain⟨a1,a2,a3,a4,a5,a6,a7⟩:=h.2 j hj;obtain⟨b1,b2,b3,b4,b5,b6,b7⟩:=e;exact⟨b1.trans a1,b2.trans a2,⟨b3.1.trans a3.1,fun i hi=>⟨(b3.2 i (by rw[a3.1];exact hi)).1.trans (by rw[a3.2.1]),(b3.2 i (by rw[a3.1];exact hi)).2.trans (by rw[a3.2.2])⟩⟩,b4.trans a4,⟨b5.1.trans a5.1,fun i hi=>⟨(b5.2 i (by rw[a5.1];exact hi)).1.trans (by rw[a5.2.1]),(b5.2 i (by rw[a5.1];exact hi)).2.trans (by rw[a5.2.2])⟩⟩,⟨b6.1.trans a6.1,fun i hi=>(b6.2 i (by rw[a6.1];exact hi)).trans (by rw[a6.2])⟩,b7.trans a7⟩⟩
theorem Rn.after{l m n:List Ab}(h:II l m)(h2:Rn m n):Rn l n:=⟨h2.1.trans h.1,fun j hj=>by
 have e:=h2.2 j (by rw[h.1];exact hj);obtain⟨a1,a2,a3,a4,a5,a6,a7,a8,a9,a10⟩:=h.2 j hj;obtain⟨b1,b2,b3,b4,b5,b6,b7,b8,b9,b10⟩:=e;exact⟨b1.trans a1,b2.trans a2,b3.trans a3,b4.trans a4,⟨b5.1.trans a5.1,fun i hi=>⟨(b5.2 i (by rw[a5.1];exact hi)).1.trans (by rw[a5.2.1]),(b5.2 i (by rw[a5.1];exact hi)).2.trans (by rw[a5.2.2])⟩⟩,b6.trans a6,⟨b7.1.trans a7.1,fun i hi=>(b7.2 i (by rw[a7.1];exact hi)).trans (by rw[a7.2])⟩,⟨b8.1.trans a8.1,fun i hi=>(b8.2 i (by rw[a8.1];exact hi)).trans (by rw[a8.2])⟩,b9.trans a9,⟨b10.1.trans a10.1,fun i hi=>⟨(b10.2 i (by rw[a10.1];exact hi)).1.trans (by rw[a10.2.1]),(b10.2 i (by rw[a10.1];exact hi)).2.trans (by rw[a10.2.2])⟩⟩⟩⟩
variable {s t:Al}{lt:List Ae}{lo:List Ab}{c:Int}{tx:ByteArray}{k:Ax}
def Al.same(s t:Al):Prop:=t.th=s.th/\t.kind=s.kind/\t.id=s.id/\t.to=s.to/\t.cat=s.cat/\t.data=s.data/\t.b1=s.b1/\s.c1.same t.c1/\t.b2=s.b2/\s.c2.same t.c2
theorem Wj{lt':List Ae}{lo':List Ab}(e:s.same t)(h:Gb lt lo t c tx lt' lo'):Gb lt lo s c tx lt' lo':=by
 obtain⟨s1,s2,s3,s4,s5,s6,s7,⟨sa,sn,sk,sf,sg⟩,s9,⟨ra,rn,rk,rf,rg⟩⟩:=s;obtain⟨t1,t2,t3,t4,t5,t6,t7,⟨ta,tn,tk,tf,tg⟩,t9,⟨ua,un,uk,uf,ug⟩⟩:=t;obtain⟨e1,e2,e3,e4,e5,e6,e7,⟨f1,f2,f3⟩,e9,⟨g1,g2,g3⟩⟩:=e;dsimp only at e1 e2 e3 e4 e5 e6 e7 f1 f2 f3 e9 g1 g2 g3;subst e1 e2 e3 e4 e5 e6 e7 f1 f2 f3 e9 g1 g2 g3;cases h with
 |form a b c d e=>exact .form a b c d e
 |thread a b c d e f=>exact .thread a b c d e f
 |act a t ht hn p=>
  refine .act a t ht hn ?_;cases p with
  |k1 h x e1 e2 p=>exact .k1 h x e1 e2 p
  |k12 h x e1 e2 e3 p=>exact .k12 h x e1 e2 e3 p
  |k14 h x e1 e2 e3 p=>exact .k14 h x e1 e2 e3 p
  |make h p=>exact .make h p
  |drop h e1 e3 p=>exact .drop h e1 e3 p
  |k6 h p=>exact .k6 h p
  |k7 h p=>exact .k7 h p
  |k8 h p=>exact .k8 h p
  |k9 h p=>exact .k9 h p
  |k10 h p=>exact .k10 h p
  |k13 h p=>exact .k13 h p
  |k15 h p=>exact .k15 h p
def Fe(k:Ax)(s:Al)(c:Int)(tx:ByteArray)(lt:List Ae)(lo:List Ab):Prop:=
 (Bd k=false/\c=1/\tx=⟨#[]⟩/\lt=[]/\lo=[])∨
 (Bd k=true/\∃(Jw:List Ae) (PG:List Ab) (lt2:List Ae) (lo2:List Ab),k.same (Cp none 0 none 0 Jw PG)/\Kq lt lt2/\II lo lo2/\Gb Jw PG s c tx lt2 lo2)
theorem Fe.of{l:Ax}(hk:k.same l)(hs:s.same t)(h:Fe l t c tx lt lo):Fe k s c tx lt lo:=by
 have e:=Cs hk;rcases h with⟨a,b⟩|⟨a,Jw,PG,lt2,lo2,b,x,y,d⟩
 ·exact .inl ⟨e▸a,b⟩
 ·refine .inr ⟨e▸a,Jw,PG,lt2,lo2,?_,x,y,Wj hs d⟩;obtain⟨h1,h2,h3,h4⟩:=hk;refine⟨b.1.trans h1,fun j hj=>?_,b.2.2.1.trans h3,fun j hj=>?_⟩
  ·obtain⟨a1,a2,a3,a4,a5,a6,a7⟩:=h2 j hj;obtain⟨b1,b2,b3,b4,b5,b6,b7⟩:=b.2.1 j (by rw[h1];exact hj);exact⟨b1.trans a1,b2.trans a2,⟨b3.1.trans a3.1,b3.2.1.trans a3.2.1,b3.2.2.trans a3.2.2⟩,b4.trans a4,⟨b5.1.trans a5.1,b5.2.1.trans a5.2.1,b5.2.2.trans a5.2.2⟩,⟨b6.1.trans a6.1,b6.2.trans a6.2⟩,b7.trans a7⟩
  ·obtain⟨a1,a2,a3,a4,a5,a6,a7,a8,a9,a10⟩:=h4 j hj;obtain⟨b1,b2,b3,b4,b5,b6,b7,b8,b9,b10⟩:=b.2.2.2 j (by rw[h3];exact hj);exact⟨b1.trans a1,b2.trans a2,b3.trans a3,b4.trans a4,⟨b5.1.trans a5.1,b5.2.1.trans a5.2.1,b5.2.2.trans a5.2.2⟩,b6.trans a6,⟨b7.1.trans a7.1,b7.2.trans a7.2⟩,⟨b8.1.trans a8.1,b8.2.trans a8.2⟩,b9.trans a9,⟨b10.1.trans a10.1,b10.2.1.trans a10.2.1,b10.2.2.trans a10.2.2⟩⟩
theorem SC.flip{l m:List Ae}(h:SC l m):SC m l:=⟨h.1.symm,fun j hj=>by
 obtain⟨a1,a2,a3,a4,a5,a6,a7⟩:=h.2 j (by rw[<-h.1];exact hj);exact⟨a1.symm,a2.symm,⟨a3.1.symm,fun i hi=>⟨(a3.2 i (by rw[<-a3.1];exact hi)).1.symm,(a3.2 i (by rw[<-a3.1];exact hi)).2.symm⟩⟩,a4.symm,⟨a5.1.symm,fun i hi=>⟨(a5.2 i (by rw[<-a5.1];exact hi)).1.symm,(a5.2 i (by rw[<-a5.1];exact hi)).2.symm⟩⟩,⟨a6.1.symm,fun i hi=>(a6.2 i (by rw[<-a6.1];exact hi)).symm⟩,a7.symm⟩⟩
theorem Rn.flip{l m:List Ab}(h:Rn l m):Rn m l:=⟨h.1.symm,fun j hj=>by
 obtain⟨a1,a2,a3,a4,a5,a6,a7,a8,a9,a10⟩:=h.2 j (by rw[<-h.1];exact hj);exact⟨a1.symm,a2.symm,a3.symm,a4.symm,⟨a5.1.symm,fun i hi=>⟨(a5.2 i (by rw[<-a5.1];exact hi)).1.symm,(a5.2 i (by rw[<-a5.1];exact hi)).2.symm⟩⟩,a6.symm,⟨a7.1.symm,fun i hi=>(a7.2 i (by rw[<-a7.1];exact hi)).symm⟩,⟨a8.1.symm,fun i hi=>(a8.2 i (by rw[<-a8.1];exact hi)).symm⟩,a9.symm,⟨a10.1.symm,fun i hi=>⟨(a10.2 i (by rw[<-a10.1];exact hi)).1.symm,(a10.2 i (by rw[<-a10.1];exact hi)).2.symm⟩⟩⟩⟩
theorem Mr{c2:Int}{tx2:ByteArray}{lt2:List Ae}{lo2:List Ab}(h:Fe k s c tx lt lo)(h2:Fe k s c2 tx2 lt2 lo2):Vg c c2 tx tx2 lt lt2 lo lo2:=by
 rcases h with⟨a,rfl,rfl,rfl,rfl⟩|⟨a,x1,x2,x3,x4,x5,x6,x7,x8⟩<;>rcases h2 with⟨b,rfl,rfl,rfl,rfl⟩|⟨b,y1,y2,y3,y4,y5,y6,y7,y8⟩
 ·exact Bh
 ·rw[a]at b;cases b
 ·rw[a]at b;cases b
 ·obtain⟨z1,z2,z3,z4⟩:=Uz x5 y5 x8 y8;exact⟨z1,z2,(SC.after y6 (SC.after x6 z3).flip).flip,(Rn.after y7 (Rn.after x7 z4).flip).flip⟩
theorem Fe.okL(h:Fe k s c tx lt lo):(lt=[]/\lo=[])∨okL lt lo=true:=by
 rcases h with⟨_,_,_,e1,e2⟩|⟨a,Jw,PG,lt2,lo2,b,x,y,d⟩
 ·exact .inl ⟨e1,e2⟩
 ·have o0:Go.Proofs.YtefoofaocbjdoaaGreatDoor.okL Jw PG=true:=(Cs b).trans a;have o2:=Kf o0 d;exact .inr ((Cs (k:=Cp none 0 none 0 lt lo) (l:=Cp none 0 none 0 lt2 lo2) ⟨x.1,x.2,y.1,y.2⟩).symm.trans o2)
def bj(k:Ax)(s:Al)(w:World)(e:Ending)(w':World):Prop:=
 ∃(lt:List Ae) (lo:List Ab) (ta oa:Option Addr) (ca co:Nat) (c:Int) (tx:ByteArray),e= .returned (.tuple #[.agg #[.slice ta lt.length ca,.slice oa lo.length co],.int .i64 c,.string tx])/\Hg w' w (.slice ta lt.length ca) (.slice oa lo.length co) lt lo/\Apart lt lo/\Fe k s c tx lt lo/\Below w w w'
theorem Sj(w:World)(B:Nat):Hg w B (.slice none 0 0) (.slice none 0 0) [] []:=
 ⟨⟨rfl,.inl ⟨rfl,rfl⟩⟩,⟨rfl,.inl ⟨rfl,rfl⟩⟩,fun x hx=>(by cases hx),fun x hx=>(by cases hx)⟩
theorem Ye.ans{w w':World}{e:Ending}(h:Ye k s w e w'):bj k s w e w':=by
 obtain⟨b,kv,c,tx,rfl,⟨n,rfl,rfl,rfl⟩|⟨ok,lt,lo,lt',lt2,lo',lo2,ta,oa,ca,co,sm,rfl,ks,ap,x,y,d⟩⟩:=h
 ·exact⟨[],[],none,none,0,0,1,⟨#[]⟩,rfl,Sj _ _,.nil,.inl ⟨n,rfl,rfl,rfl,rfl⟩,b⟩
 ·exact⟨lt',lo',ta,oa,ca,co,c,tx,rfl,ks,ap,.inr ⟨ok,lt,lo,lt2,lo2,sm,x,y,d⟩,b⟩
def aY(k:Ax)(s:Al)(w:World)(e:Ending)(w':World):Prop:=
 ∃(lt:List Ae) (lo:List Ab) (ta oa:Option Addr) (ca co:Nat) (c:Int) (tx:ByteArray),e= .returned (.tuple #[.agg #[.slice ta lt.length ca,.slice oa lo.length co],.int .i64 c,.string tx])/\Hg w' w (.slice ta lt.length ca) (.slice oa lo.length co) lt lo/\Fe k s c tx lt lo/\Below w w w'
theorem TX(k:Ax)(w:World)(hk:k.at w)(hw:∀i,i<k.on->(Lit.int .i64 (k.O i).id).wf=true)(s:Al)(hs:s.at w):
 Calls prog 7 #[.agg #[.slice k.ta k.tn k.tk,.slice k.oa k.on k.ok],.agg s] w fun e w'=>aY k s w e w':=by
 cases ok:Bd k with
 |false=>
  refine(RI k w hk ok hw s).mono ?_;rintro e w' ⟨rfl,b⟩;exact⟨[],[],none,none,0,0,1,⟨#[]⟩,rfl,Sj _ _,.inl ⟨ok,rfl,rfl,rfl,rfl⟩,b⟩
 |true=>
  refine(Me k w hk ok s hs).mono ?_;rintro e w' ⟨lt,lo,lt',lo',ta,ca,oa,co,c,tx,rfl,ks,b,sm,d⟩;exact⟨lt',lo',ta,oa,ca,co,c,tx,rfl,ks.f,.inr ⟨ok,lt,lo,lt',lo',sm,Kq.refl _,⟨rfl,fun _ _=>⟨rfl,rfl,rfl,rfl,⟨rfl,rfl,rfl⟩,rfl,⟨rfl,rfl⟩,⟨rfl,rfl⟩,rfl,⟨rfl,rfl,rfl⟩⟩⟩,d⟩,b⟩
theorem Yy(ta:Option Addr)(ca:Nat)(oa:Option Addr)(co:Nat)(lt:List Ae)(lo:List Ab):(Cp ta ca oa co lt lo).same (Cp none 0 none 0 lt lo):=
 ⟨rfl,fun _ _=>Gx _,rfl,fun _ _=>Ab.same.refl _⟩
theorem Fe.right{k:Ax}{s:Al}{c:Int}{tx:ByteArray}{lt:List Ae}{lo:List Ab}(h:Fe k s c tx lt lo)(hc:c≠1):Bd k=true/\Go.Proofs.YtefoofaocbjdoaaGreatDoor.okL lt lo=true:=by
 rcases h with⟨_,e,_⟩|⟨a,Jw,PG,lt2,lo2,b,x,y,d⟩
 ·exact(hc e).elim
 ·have o0:Go.Proofs.YtefoofaocbjdoaaGreatDoor.okL Jw PG=true:=(Cs b).trans a;have o2:=Kf o0 d;exact⟨a,(Cs (k:=Cp none 0 none 0 lt lo) (l:=Cp none 0 none 0 lt2 lo2) ⟨x.1,x.2,y.1,y.2⟩).symm.trans o2⟩
theorem cr{x:Int}(h:Ro x):(Lit.int .i64 x).wf=true:=by
 have e1:IntKind.i64.min= -9223372036854775808:=by decide
 have e2:IntKind.i64.max=9223372036854775807:=by decide
 simp[Lit.wf,e1,e2];unfold Ro at h;omega
theorem Hg.at{w:World}{B ca co:Nat}{ta oa:Option Addr}{lt:List Ae}{lo:List Ab}(h:Hg w B (.slice ta lt.length ca) (.slice oa lo.length co) lt lo)(f:La lt lo):(Cp ta ca oa co lt lo).at w:=
 ⟨Nat.le_trans f.tn.2 (by unfold maxLen;omega),Nat.le_trans f.on.2 (by unfold maxLen;omega),h.t.lies (fun x hx=>(h.tn x hx).at),h.o.lies (fun x hx=>(h.on x hx).at (f.data x hx))⟩
theorem La.wf{lt:List Ae}{lo:List Ab}(f:La lt lo):∀i,i<lo.length->(Lit.int .i64 (Aa lo i).id).wf=true/\(Lit.int .i64 (Aa lo i).up).wf=true:=fun i hi=>by
 have h:=f.o _ (List.getElem_mem hi);rw[AM hi];exact⟨RS h.2.1,cr h.2.2⟩
theorem La.small{lt:List Ae}{lo:List Ab}(f:La lt lo)(ta oa:Option Addr)(ca co:Nat):(Cp ta ca oa co lt lo).small:=⟨⟨by show lt.length<=1048576;have:=f.tn.2;omega,fun i hi=>by
 have hi':i<lt.length:=hi;show(AY lt i).small;rw[Eh hi'];exact f.t _ (List.getElem_mem hi')⟩,by show lo.length<=1048576;have:=f.on.2;omega,fun i hi=>by
 have hi':i<lo.length:=hi;show(Aa lo i).small;rw[AM hi'];exact(f.o _ (List.getElem_mem hi')).1⟩
structure Kn(B:Nat)(W:World)(lt:List Ae)(lo:List Ab)(ta oa:Option Addr)(ca co:Nat):Prop where
 st:Hg W B (.slice ta lt.length ca) (.slice oa lo.length co) lt lo
 f:La lt lo
theorem Kn.below{B:Nat}{W W':World}{lt:List Ae}{lo:List Ab}{ta oa:Option Addr}{ca co:Nat}(h:Kn B W lt lo ta oa ca co)(hb:Below W W W'):Kn B W' lt lo ta oa ca co:=⟨h.st.below hb,h.f⟩
theorem Kn.cap{B:Nat}{W:World}{lt:List Ae}{lo:List Ab}{ta oa:Option Addr}{ca co:Nat}(h:Kn B W lt lo ta oa ca co):lo.length<=co:=(Dm h.st.o).1
def Vx(W:World)(E:Nat->Addr):Prop:=Ks W E/\XZ W E/\Rl W
theorem Vx.below{W W':World}{E:Nat->Addr}(h:Vx W E)(hb:Below W W W'):Vx W' E:=⟨h.1.below (by have:=h.2.1.2.2.2;omega) hb,h.2.1.below hb,h.2.2.below hb⟩
section
variable {B:Nat}{W:World}{lt:List Ae}{lo:List Ab}{ta oa:Option Addr}{ca co:Nat} (h:Kn B W lt lo ta oa ca co)
include h
theorem Kn.done{E:Nat->Addr}{s:Al}(hr:YF E s)(hs:s.at W)(v:Vx W E):Calls prog 6 #[.agg #[.slice ta lt.length ca,.slice oa lo.length co],.agg s] W fun e w'=>bj (Cp ta ca oa co lt lo) s W e w':=
 (Rh E (Cp ta ca oa co lt lo) s hr W (h.st.at h.f) hs h.cap h.f.wf v.1 v.2.1 v.2.2).mono fun _ _ d=>d.ans
theorem Kn.spec{s:Al}(hs:s.at W):Calls prog 7 #[.agg #[.slice ta lt.length ca,.slice oa lo.length co],.agg s] W fun e w'=>aY (Cp ta ca oa co lt lo) s W e w':=
 TX (Cp ta ca oa co lt lo) W (h.st.at h.f) (fun i hi=>(h.f.wf i hi).1) s hs
end
theorem aU{lt lt':List Ae}{lo lo':List Ab}{s:Al}{c:Int}{tx:ByteArray}(h:Gb lt lo s c tx lt' lo'):Gb (lt.map Ae.nm) (lo.map Ab.nm) s c tx (lt'.map Ae.nm) (lo'.map Ab.nm):=by
 cases h with
 |form a b c d e=>exact .form a b c (by rw[d]) (by rw[e])
 |thread a b c d e f=>exact .thread a (by rw[Vi];exact b) c d (by rw[e]) (by rw[f])
 |act a t ht hn p=>exact .act a t (by simpa using ht) (by rw[Vi];exact hn) (by rw[List.getElem_map];exact Xc p)
theorem XD{l m:List Ae}(h:Kq l m):l.map Ae.nm=m.map Ae.nm:=Tr h.1 fun j hj=>Xm (Gx _) (h.2 j hj)
theorem Xg{l m:List Ab}(h:II l m):l.map Ab.nm=m.map Ab.nm:=Tk h.1 fun j hj=>X8 (Ab.same.refl _) (h.2 j hj)
theorem QX{ta oa:Option Addr}{ca co:Nat}{lt lt':List Ae}{lo lo':List Ab}{s:Al}{c:Int}{tx:ByteArray}(ok:okL lt lo=true)(h:Fe (Cp ta ca oa co lt lo) s c tx lt' lo'):Gb (lt.map Ae.nm) (lo.map Ab.nm) s c tx (lt'.map Ae.nm) (lo'.map Ab.nm):=by
 rcases h with⟨e,_⟩|⟨_,Jw,PG,lt2,lo2,sm,st,so,d⟩
 ·rw[show Bd (Cp ta ca oa co lt lo)=true from ok]at e;cases e
 ·obtain⟨et,eo⟩:=Xu (Yy ta ca oa co lt lo) sm;have:=aU d;rw[et,eo,XD st,Xg so];exact this
theorem Fe.ok2{ta oa:Option Addr}{ca co:Nat}{lt lt':List Ae}{lo lo':List Ab}{s:Al}{c:Int}{tx:ByteArray}(ok:Go.Proofs.YtefoofaocbjdoaaGreatDoor.okL lt lo=true)(h:Fe (Cp ta ca oa co lt lo) s c tx lt' lo'):Go.Proofs.YtefoofaocbjdoaaGreatDoor.okL lt' lo'=true:=by
 rcases h with⟨e,_⟩|⟨a,Jw,PG,lt2,lo2,b,x,y,d⟩
 ·rw[show Bd (Cp ta ca oa co lt lo)=true from ok]at e;cases e
 ·have o0:Go.Proofs.YtefoofaocbjdoaaGreatDoor.okL Jw PG=true:=(Cs b).trans a;exact(Cs (k:=Cp none 0 none 0 lt' lo') (l:=Cp none 0 none 0 lt2 lo2) ⟨x.1,x.2,y.1,y.2⟩).symm.trans (Kf o0 d)
section
variable {X:Ae}{s:Al}{lt lt':List Ae}{lo lo':List Ab}{t:Nat}{c:Int}{tx:ByteArray}
end
theorem Yi{lt lt':List Ae}{lo lo':List Ab}{s:Al}{tx:ByteArray}(d:Gb lt lo s 0 tx lt' lo'):s.ok=true/\∃(t:Nat) (ht:t<lt.length),Tb lt s.th=some t/\FV lt[t] s lt lo t 0 tx lt' lo':=by
 cases d with
 |form _ hc=>cases hc
 |thread _ _ hc=>cases hc
 |act a t ht hn p=>exact⟨a,t,ht,hn,p⟩
section
variable {ta oa ta1 oa1 ta2 oa2:Option Addr}{ca co ca1 co1 ca2 co2:Nat}{lt lt1 lt2:List Ae}{lo lo1 lo2:List Ab}{s:Al}{tx tx2:ByteArray}{c2:Int}
end
section
variable {X:Ae}{s:Al}{lt lt':List Ae}{lo lo':List Ab}{t:Nat}{c:Int}{tx:ByteArray}
end
section
variable {X:Ae}{s:Al}{lt lt':List Ae}{lo lo':List Ab}{t u:Nat}{c:Int}{tx:ByteArray}
end
end Go.Proofs.YtefoofaocbjdoaaGreatDoor
