import Derived.Test.YteoihknaljgocaaGreatDoorDWVm
set_option maxRecDepth 100000
set_option maxHeartbeats 16000000
namespace Go.Proofs.YteoihknaljgocaaGreatDoor
open Go Go.RowKit Go.Deep Go.Extern.Stop Go.Stop Go.Extern Go.Proofs.Tryz
theorem Vi(t:Addr)(w:World):(ReflectliteValue.unpack (.iface 63 (.pointer (some t)))).run prog w
 = .ok (.agg #[.pointer (some ⟨18,63,none⟩),.pointer (w),.int .u64 150]) (w.alloc (.cells #[.pointer (some t)] 63)):=by kernel_rfl
theorem ak(a:Addr)(w:World):(ReflectliteValue.methodAny (ReflectliteValue.valueError "reflectlite.Value.Type" 0) (fun t _ _ _=>ReflectliteType.toType t) #[.agg #[.pointer (some ⟨18,63,none⟩),.pointer (some a),.int .u64 150]]).run prog w
 = .ok (.iface 147 (.agg #[.pointer (some ⟨18,63,none⟩)])) w:=by kernel_rfl
theorem Zo(h:Value)(w:World):(Go.method 390 147 (.agg #[h]) "Kind").run prog w= .ok (217,h) w:=by kernel_rfl
theorem Xx(w:World):((ReflectliteType.abiMethod fun t=>(fun a:Nat=>Value.int IntKind.u8 (a:Int))<$>Rtype.kind t) #[.pointer (some ⟨18,63,none⟩)]).run prog w= .ok (.int .u8 22) w:=by kernel_rfl
theorem Xm(w:World):((ReflectliteType.abiMethod fun t=>(fun a:Nat=>Value.int IntKind.u8 (a:Int))<$>Rtype.kind t) #[.pointer (some ⟨18,61,none⟩)]).run prog w= .ok (.int .u8 22) w:=by kernel_rfl
theorem Rp(z:Sem Value)(f:TypeId->Addr->Nat->Nat->Sem Value)(v:Value):
 ReflectliteValue.method z f #[v]=(do match <-ReflectliteValue.parts v with|none=>z|some (t,a,fl)=>f t a fl (fl%32)):=rfl
theorem PE(a:Addr)(w:World):(ReflectliteValue.parts (.agg #[.pointer (some ⟨18,63,none⟩),.pointer (some a),.int .u64 150])).run prog w= .ok (some (63,a,150)) w:=by kernel_rfl
theorem YZ(a p:Addr)(W:World)(ha:W.cell? a=some (.pointer (some p))):
 (ReflectliteValue.method (ReflectliteValue.valueError "reflectlite.Value.IsNil" 0) ReflectliteValue.isNil #[.agg #[.pointer (some ⟨18,63,none⟩),.pointer (some a),.int .u64 150]]).run prog W= .ok (.bool false) W:=by
 rw[Rp];simp only[Sem.run_bind,PE,Result.andThen];simp[ReflectliteValue.isNil,loadVar,isAgg,underlying,underlying63,ha,Result.andThen]
theorem Zf(h:Value)(w:World):(Go.method 390 147 (.agg #[h]) "Elem").run prog w= .ok (230,.agg #[h]) w:=by kernel_rfl
theorem YO(h:Value)(w:World):(Go.method 390 147 (.agg #[h]) "Implements").run prog w= .ok (231,.agg #[h]) w:=by kernel_rfl
theorem az(h:Value)(w:World):(Go.method 390 147 (.agg #[h]) "AssignableTo").run prog w= .ok (228,.agg #[h]) w:=by kernel_rfl
theorem aH(w:World):(ReflectliteType.method ReflectliteType.elem #[.agg #[.pointer (some ⟨18,63,none⟩)]]).run prog w= .ok (.iface 147 (.agg #[.pointer (some ⟨18,61,none⟩)])) w:=by kernel_rfl
theorem ZY(w:World):(ReflectliteType.relation "Implements" ReflectliteType.implements_ #[.agg #[.pointer (some ⟨18,61,none⟩)],.iface 147 (.agg #[.pointer (some ⟨18,57,none⟩)])]).run prog w= .ok (.bool true) w:=by kernel_rfl
theorem XQ(v:Value)(w:World):(ReflectliteType.typeOf #[.iface 61 v]).run prog w= .ok (.iface 147 (.agg #[.pointer (some ⟨18,61,none⟩)])) w:=by kernel_rfl
theorem bz(w:World):(ReflectliteType.relation "AssignableTo" ReflectliteType.assignableTo #[.agg #[.pointer (some ⟨18,61,none⟩)],.iface 147 (.agg #[.pointer (some ⟨18,61,none⟩)])]).run prog w= .ok (.bool true) w:=by kernel_rfl
theorem RN(e:Addr)(w:World):(ReflectliteValue.unpack (.iface 61 (.pointer (some e)))).run prog w
 = .ok (.agg #[.pointer (some ⟨18,61,none⟩),.pointer (w),.int .u64 150]) (w.alloc (.cells #[.pointer (some e)] 61)):=by kernel_rfl
theorem YU(w:World):(Rtype.elem? 63).run prog w= .ok (some 61) w:=by kernel_rfl
theorem ci(p:Addr)(w:World):(ReflectliteValue.mk 61 p ReflectliteValue.flagAddr).run prog w= .ok (.agg #[.pointer (some ⟨18,61,none⟩),.pointer (some p),.int .u64 406]) w:=by kernel_rfl
theorem Yy(a p:Addr)(W:World)(ha:W.cell? a=some (.pointer (some p))):
 (ReflectliteValue.method (ReflectliteValue.valueError "reflectlite.Value.Elem" 0) ReflectliteValue.elem #[.agg #[.pointer (some ⟨18,63,none⟩),.pointer (some a),.int .u64 150]]).run prog W
   = .ok (.agg #[.pointer (some ⟨18,61,none⟩),.pointer (some p),.int .u64 406]) W:=by
 rw[Rp];simp only[Sem.run_bind,PE,Result.andThen];simp[ReflectliteValue.elem,loadVar,isAgg,underlying,underlying63,ha,Result.andThen,YU,ci]
theorem Tt(a:Addr)(w:World):(ReflectliteValue.parts (.agg #[.pointer (some ⟨18,61,none⟩),.pointer (some a),.int .u64 406])).run prog w= .ok (some (61,a,406)) w:=by kernel_rfl
theorem Vr(a:Addr)(w:World):(ReflectliteValue.parts (.agg #[.pointer (some ⟨18,61,none⟩),.pointer (some a),.int .u64 150])).run prog w= .ok (some (61,a,150)) w:=by kernel_rfl
theorem XR(w:World):(Rtype.directlyAssignable 61 61).run prog w= .ok true w:=by kernel_rfl
theorem YT(v x:Value)(h1:Value->Value->Sem Value)(h2:Array Value->Sem Value):ReflectliteValue.set.match_3 (fun _=>Sem Value) #[v,x] h1 h2=h1 v x:=rfl
theorem bD(ta b e:Addr)(old:Value)(W:World)(hb:W.cell? b=some (.pointer (some e)))(ht:W.cell? ta=some old)(hf:W.frozen? ta=false):
 (ReflectliteValue.set #[.agg #[.pointer (some ⟨18,61,none⟩),.pointer (some ta),.int .u64 406],.agg #[.pointer (some ⟨18,61,none⟩),.pointer (some b),.int .u64 150]]).run prog W
   = .ok (.tuple #[]) (W.setCell ta (.pointer (some e))):=by
 delta ReflectliteValue.set;rw[YT];simp only[Sem.run_bind,Tt,Vr,Result.andThen];simp[ReflectliteValue.flagAddr,loadVar,isAgg,underlying,underlying61,hb,Result.andThen,XR,storeVar,Value.cells,storeCells,Addr.add];rw[run_store prog W ta _ _ (by rfl)];simp[ht,hf]
def Zw(e t:Addr)(w:World):World:=((((w.alloc (.cells #[.pointer (some t)] 63)).alloc (.cells #[.pointer (some ⟨18,63,none⟩),.pointer (w),.int .u64 150] 111)).alloc (.cells #[.pointer (some ⟨18,63,none⟩),.pointer (w),.int .u64 150] 111)).alloc (.cells #[.pointer (some e)] 61)).setCell t (.pointer (some e))
theorem ZT(e t:Addr)(old:Value)(w:World)(hg:w.cell? ⟨3,0,none⟩=some (.iface 147 (.agg #[.pointer (some ⟨18,57,none⟩)])))(ht0:w.cell? t=some old)(hf0:w.frozen? t=false):
 Calls prog 20 #[.iface 61 (.pointer (some e)),.iface 63 (.pointer (some t))] w fun ev w'=>ev= .returned (.bool true)/\w'=Zw e t w:=by
 have h60:=@run_callFunc_extern prog 49 _ (fun args=>ReflectliteValue.unpack (args.getD 0 (.tuple #[]))) func49 (by kernel_rfl) (by kernel_rfl) (by kernel_rfl) (by kernel_rfl);have h61:=@run_callFunc_extern prog 50 _ (ReflectliteValue.methodAny (ReflectliteValue.valueError "reflectlite.Value.Type" 0) (fun t _ _ _=>ReflectliteType.toType t)) func50 (by kernel_rfl) (by kernel_rfl) (by kernel_rfl) (by kernel_rfl);have h62:=@run_callFunc_extern prog 51 _ (ReflectliteValue.method (ReflectliteValue.valueError "reflectlite.Value.IsNil" 0) ReflectliteValue.isNil) func51 (by kernel_rfl) (by kernel_rfl) (by kernel_rfl) (by kernel_rfl);have h243:=@run_callFunc_extern prog 217 _ (ReflectliteType.abiMethod fun t=>do pure (.int .u8 (<-Rtype.kind t))) func217 (by kernel_rfl) (by kernel_rfl) (by kernel_rfl) (by kernel_rfl);have h254:=@run_callFunc_extern prog 230 _ (ReflectliteType.method ReflectliteType.elem) func230 (by kernel_rfl) (by kernel_rfl) (by kernel_rfl) (by kernel_rfl);have h255:=@run_callFunc_extern prog 231 _ (ReflectliteType.relation "Implements" ReflectliteType.implements_) func231 (by kernel_rfl) (by kernel_rfl) (by kernel_rfl) (by kernel_rfl);have h58:=@run_callFunc_extern prog 47 _ ReflectliteType.typeOf func47 (by kernel_rfl) (by kernel_rfl) (by kernel_rfl) (by kernel_rfl);have h252:=@run_callFunc_extern prog 228 _ (ReflectliteType.relation "AssignableTo" ReflectliteType.assignableTo) func228 (by kernel_rfl) (by kernel_rfl) (by kernel_rfl) (by kernel_rfl);have h116:=@run_callFunc_extern prog 93 _ (ReflectliteValue.method (ReflectliteValue.valueError "reflectlite.Value.Elem" 0) ReflectliteValue.elem) func93 (by kernel_rfl) (by kernel_rfl) (by kernel_rfl) (by kernel_rfl);have h117:=@run_callFunc_extern prog 94 _ ReflectliteValue.set func94 (by kernel_rfl) (by kernel_rfl) (by kernel_rfl) (by kernel_rfl);have l1:=XQ;have l2:=az;have l3:=bz;have l4:=RN;have l5:=Vi;have l6:=ak;have l7:=Zo;have l8:=Zf;have l9:=YO;have l10:=Xx;have l11:=Xm;have l12:=aH;have l13:=ZY;have n1:No (.cells #[.pointer (some ⟨18,63,none⟩),.pointer (w),.int .u64 150] 111):=⟨⟩;have n2:Nw ((w.alloc (.cells #[.pointer (some t)] 63)).alloc n1):=⟨⟩;have n8:=YZ ⟨w,0,none⟩ t n2 (by simp);have hlt:3<w.heap.size:=by
  rcases Nat.lt_or_ge 3 w with h|h
  ·exact h
  ·simp[World.cell?,Array.getElem?_eq_none h]at hg
 have hg2:(n2:World).cell? ⟨3,0,none⟩=some (.iface 147 (.agg #[.pointer (some ⟨18,57,none⟩)])):=by
  rw[World.cell?_alloc_lt _ _ ⟨3,0,none⟩ (by simp;omega),World.cell?_alloc_lt _ _ ⟨3,0,none⟩ hlt];exact hg
 have htl:t.block<w.heap.size:=by
  rcases Nat.lt_or_ge t.block w with h|h
  ·exact h
  ·simp[World.cell?,Array.getElem?_eq_none h]at ht0
 have el:=Yy ⟨w,0,none⟩ t ((n2:World).alloc n1) (by rw[World.cell?_alloc_lt _ _ ⟨w,0,none⟩ (by simp;omega)];simp);have st:=bD t ⟨w.heap.size+1+1+1,0,none⟩ e old (((n2:World).alloc n1).alloc (.cells #[.pointer (some e)] 61))
  (by rw[World.cell?_alloc_at _ _ _ _ (by simp)];rfl)
  (by rw[World.cell?_alloc_lt _ _ t (by simp;omega),World.cell?_alloc_lt _ _ t (by simp;omega),World.cell?_alloc_lt _ _ t (by simp;omega),World.cell?_alloc_lt _ _ t htl];exact ht0)
  (by rw[World.frozen?_alloc_old _ _ t (by simp;omega),World.frozen?_alloc_old _ _ t (by simp;omega),World.frozen?_alloc_old _ _ t (by simp;omega),World.frozen?_alloc_old _ _ t (Nat.ne_of_lt htl)];exact hf0)
 unfold Zw;go_enter func20,ntmps20
 go_wp2;refine wp_loop_rounds 1 ?_;rw[rounds_succ];go_wp2;go_ret;exact⟨rfl,rfl⟩
open Go.Maps Go.BigFrame Go.Shelf
def WR(w:World)(E:Nat->Addr):Prop:=(∀i,i<14->i≠3->i≠0->E i≠E 0)/\(∀i,i<14->i≠3->∃ca ta,w.heap[(E i).block]? =some (.cells ca ta (0,0)))/\w.cell? ⟨3,0,none⟩=some (.iface 147 (.agg #[.pointer (some ⟨18,57,none⟩)]))/\17<w.heap.size
theorem WR.below{w w':World}{E:Nat->Addr}(h:WR w E)(hb:Below w.heap.size w w'):WR w' E:=by
 refine⟨h.1,fun i h1 h2=>?_,?_,Nat.lt_of_lt_of_le h.2.2.2 hb.size⟩
 ·obtain⟨ca,ta,hc⟩:=h.2.1 i h1 h2;exact⟨ca,ta,(hb.block _ (Array.getElem?_eq_some_iff.1 hc).1).trans hc⟩
 ·exact(hb.cell (p:=⟨3,0,none⟩) (by have:=h.2.2.2;show 3<_;omega)).trans h.2.2.1
theorem XW(e:Addr)(tb:Nat)(w:World):w.grownBy (Zw e ⟨tb,0,none⟩ w) (some tb):=by
 unfold Zw;refine As (Fq ⟨rfl,rfl,rfl,Nat.le_refl _,fun _ _ _=>rfl⟩ ?_) _ _;exact(((Bf w _).alloc (by simp) _).alloc (by simp;omega) _).alloc (by simp;omega) _
theorem ZR{e:Addr}{tb:Nat}{w:World}(h:Ag w tb (.cells #[.pointer none] 61)):Ag (Zw e ⟨tb,0,none⟩ w) tb (.cells #[.pointer (some e)] 61):=by
 unfold Zw;exact((((h.alloc _).alloc _).alloc _).alloc _).jB (i:=0) _
theorem Ag.c1{W:World}{P t:Nat}{x:Value}(h:Ag W P (.cells #[x] t)):W.cell? ⟨P,0,none⟩=some x:=by
 unfold Ag at h;simp[World.cell?,h]
def Kq(l l2:List Ae):Prop:=l2.length=l.length/\∀j,j<l.length->(Ao l j).same (Ao l2 j)
theorem Kq.refl(l:List Ae):Kq l l:=⟨rfl,fun _ _=>Gn _⟩
def Xt(k:Aw)(s:Al)(w:World)(e:Ending)(w':World):Prop:=
 Below w.heap.size w w'/\∃(kv:Value) (c:Int) (tx:ByteArray),e= .returned (.tuple #[kv,.int .i64 c,.string tx])/\
 ((Bj k=false/\kv= .agg #[.slice none 0 0,.slice none 0 0]/\c=1/\tx=⟨#[]⟩)∨
  (Bj k=true/\∃(lt:List Ae) (lo:List Ab) (lt' lt2:List Ae) (lo' lo2:List Ab) (ta oa:Option Addr) (ca co:Nat),k.same (Bo none 0 none 0 lt lo)/\kv= .agg #[.slice ta lt'.length ca,.slice oa lo'.length co]/\Hy w' w.heap.size (.slice ta lt'.length ca) (.slice oa lo'.length co) lt' lo'/\Apart lt' lo'/\Kq lt' lt2/\IQ lo' lo2/\Hc lt lo s c tx lt2 lo2))
theorem IG(tmps:Array Value)(W:World)(P:Nat)(x y v5 v6:Value)(h:Ag W P (.cells #[x,y] 27))(h4:tmps[4]? =some (.pointer P))(h5:tmps[5]? =some v5)(h6:tmps[6]? =some v6):
 (results Tryz.f6 tmps).run prog W= .ok (.tuple #[.agg #[x,y],v5,v6]) W:=by
 obtain⟨z0,z1⟩:=h.two;simp[results,Tryz.results6,go_sem,h4,h5,h6,z0,z1]
theorem Zl{k:Aw}{lt lt2:List Ae}{lo lo2:List Ab}{ta oa:Option Addr}{ca co:Nat}(h:k.same (Bo ta ca oa co lt lo))(h2:k.same (Bo none 0 none 0 lt2 lo2)):Kq lt lt2/\IQ lo lo2:=by
 refine⟨⟨h2.1.trans h.1.symm,fun j hj=>?_⟩,h2.2.2.1.trans h.2.2.1.symm,fun j hj=>?_⟩
 ·have hj':j<k.tn:=by have e:lt.length=k.tn:=h.1;omega
  have a:(k.T j).same (Ao lt j):=h.2.1 j hj';have b:(k.T j).same (Ao lt2 j):=h2.2.1 j hj';obtain⟨a1,a2,a3,a4,a5,a6,a7⟩:=a;obtain⟨b1,b2,b3,b4,b5,b6,b7⟩:=b;exact⟨b1.trans a1.symm,b2.trans a2.symm,⟨b3.1.trans a3.1.symm,b3.2.1.trans a3.2.1.symm,b3.2.2.trans a3.2.2.symm⟩,b4.trans a4.symm,⟨b5.1.trans a5.1.symm,b5.2.1.trans a5.2.1.symm,b5.2.2.trans a5.2.2.symm⟩,⟨b6.1.trans a6.1.symm,b6.2.trans a6.2.symm⟩,b7.trans a7.symm⟩
 ·have hj':j<k.on:=by have e:lo.length=k.on:=h.2.2.1;omega
  have a:(k.O j).same (Aa lo j):=h.2.2.2 j hj';have b:(k.O j).same (Aa lo2 j):=h2.2.2.2 j hj';obtain⟨a1,a2,a3,a4,a5,a6,a7,a8,a9,a10⟩:=a;obtain⟨b1,b2,b3,b4,b5,b6,b7,b8,b9,b10⟩:=b;exact⟨b1.trans a1.symm,b2.trans a2.symm,b3.trans a3.symm,b4.trans a4.symm,⟨b5.1.trans a5.1.symm,b5.2.1.trans a5.2.1.symm,b5.2.2.trans a5.2.2.symm⟩,b6.trans a6.symm,⟨b7.1.trans a7.1.symm,b7.2.trans a7.2.symm⟩,⟨b8.1.trans a8.1.symm,b8.2.trans a8.2.symm⟩,b9.trans a9.symm,⟨b10.1.trans a10.1.symm,b10.2.1.trans a10.2.1.symm,b10.2.2.trans a10.2.2.symm⟩⟩
theorem QX(E:Nat->Addr)(k:Aw)(s:Al)(hr:Xl E s)(w:World)(hk:k.at w)(hs:s.at w)(hcap:k.on<=k.ok)(hw:∀i,i<k.on->(Lit.int .i64 (k.O i).id).wf=true/\(Lit.int .i64 (k.O i).up).wf=true)(he:Kr w E)(hE:WR w E)(tab:Q6 w):
 Calls prog 6 #[.agg #[.slice k.ta k.tn k.tk,.slice k.oa k.on k.ok],.agg s] w fun e w'=>Xt k s w e w':=by
 have n10:No (.cells s 32):=⟨⟩;have n13:No (.cells #[.slice k.ta k.tn k.tk,.slice k.oa k.on k.ok] 27):=⟨⟩;have n9:Nw ((w.alloc n13).alloc n10):=⟨⟩;have n11:No (.cells #[.slice none 0 0,.slice none 0 0] 27):=⟨⟩;have b0:Below w.heap.size w ((n9:World).alloc n11):=((Bf w _).alloc (by simp) _).alloc (by simp;omega) _;have f0:Ag ((n9:World).alloc n11) w.heap.size n13:=((Ag.new w _).alloc _).alloc _;have f1:Ag ((n9:World).alloc n11) (w.heap.size+1) n10:=by
  have h:=(Ag.new (w.alloc n13) n10).alloc n11;rw[show(w.alloc n13).heap.size=w.heap.size+1 from by simp]at h;exact h
 have f2:Ag ((n9:World).alloc n11) (w.heap.size+2) n11:=by
  have h:=Ag.new n9 n11;rw[show(n9:World).heap.size=w.heap.size+2 from by simp]at h;exact h
 have h19:=hE.2.2.2;have h14:14<=w.heap.size:=by omega
 have DN:=hid (Xq E k s hr ((n9:World).alloc n11) (hk.below b0) (hs.below b0) hcap hw (he.below h14 b0) (by have:=b0.size;omega) (tab.below b0));have B0:=hid b0;have F0:=hid f0;have F2:=hid f2;have HK:=hid hk;have HE:=hid he;have HB:=hid hE;obtain⟨x0,x1⟩:=f0.two;obtain⟨y0,y1,y2,y3,y4,y5,y6,y7,y8,y9⟩:=f1.jE;clear b0 f0 f1 f2 hk hs he hE tab hr;go_enter func6,ntmps6
 go_wp2_with fail
 clear x0 x1 y0 y1 y2 y3 y4 y5 y6 y7 y8 y9;generalize ((n9:World).alloc n11)=w0 at *;refine DN.out.mono ?_;rintro e w1 ⟨kv,tx,v,rfl,b1,⟨ga,qa,n1,n2,c1,c2,rfl⟩,hh⟩;have n12:No (.cells #[.slice ga n1 c1,.slice qa n2 c2] 27):=⟨⟩;have b2:=(Below.refl _ w1).alloc nr n12;have AA:=hid (Af B0.out b1);have A2:=hid (Af AA.out b2);have G0:=hid ((F0.out.below b1).below b2);have G2:=hid ((F2.out.below b1).below b2);have G7:=hid (Ag.new w1 n12);have BB:=hid b2;have z1:w.heap.size+2<w1.heap.size:=(F2.out.below b1).lt;have e0:=(HE.out.below h14 A2.out 0 (by omega) (by omega)).1;have s0:w.heap.size+2<w0.heap.size:=F2.out.lt;have HH:=hid hh;clear b1 b2 F0 F2 DN hh;rcases HH.out with⟨nk,r,rfl,br⟩|⟨ok,c,lt,lo,told,hc,sm,dp⟩|⟨ok,rfl,lt,lo,lt',lo',lo2,g,ca,q,co,sm,ekv,ks,ap,so,dp⟩
 ·have IS:=hid (aB r 1 (E 0) (w1.alloc n12) (br.below BB.out));have NK:=hid nk;clear nk br HH;go_wp2_with fail
  generalize w1.alloc n12=w2 at *;refine IS.out.mono ?_;rintro e w3 ⟨rfl,hw3⟩;have hw4:=hw3.symm;subst hw4;clear hw3 IS;obtain⟨r0,r1⟩:=G2.out.two;have rf:=G2.out.jC;go_wp2;have gq:=Hg w2 (w.heap.size+2) (.slice none 0 0) (.slice none 0 0);have bb:Below w.heap.size w ((w2.setCell ⟨w.heap.size+2,0,none⟩ (.slice none 0 0)).setCell ⟨w.heap.size+2,1,none⟩ (.slice none 0 0)):=A2.out.trans (below_grown gq A2.out.size (fun j e=>by have:=Option.some.inj e;omega));exact bodyPost_ret (IG _ _ (w.heap.size+2) (.slice none 0 0) (.slice none 0 0) _ _ ((G2.out.jB (i:=0) _).jB (i:=1) _) rfl rfl rfl) rfl ⟨bb,_,_,_,rfl,.inl ⟨NK.out,rfl,rfl,rfl⟩⟩
 ·rcases told with⟨h0,_⟩|⟨_,r,i,rfl,br,i0,i14,i3,rl⟩
  ·exact absurd h0 hc
  have br2:=br.below BB.out;obtain⟨ca0,ta0,hca⟩:=(HB.out.below A2.out).2.1 i i14 i3;obtain⟨cb0,tb0,hcb⟩:=(HB.out.below A2.out).2.1 0 (by omega) (by omega);have IS:=hid (aN r c (E i) (E 0) ca0 cb0 ta0 tb0 (w1.alloc n12) br2 (HB.out.1 i i14 i3 i0) hca hcb);have BR:=hid br2;have SM:=hid sm;have DP:=hid dp;have OK:=hid ok;have HB2:=hid (HB.out.below A2.out);have w1l:w1.heap.size<(w1.alloc n12).heap.size:=by simp
  have rlt:r<w1.heap.size:=br.lt;clear hca hcb br br2 sm dp ok HH;go_wp2_with fail
  generalize w1.alloc n12=w2 at *;refine IS.out.mono ?_;rintro e w3 ⟨rfl,hw3⟩;have hw4:=hw3.symm;subst hw4;clear hw3 IS;have n14:No (.cells #[.pointer none] 61):=⟨⟩;have b3:=(Below.refl _ w2).alloc nr n14;have t3:=Ag.new w2 n14;have tc:(w2.alloc n14).cell? ⟨w2.heap.size,0,none⟩=some (.pointer none):=t3.c1;have AS:=hid (ZT ⟨r,0,none⟩ ⟨w2.heap.size,0,none⟩ (.pointer none) (w2.alloc n14) (HB2.out.below b3).2.2.1 tc (t3.jC _));have gr:=XW ⟨r,0,none⟩ w2.heap.size (w2.alloc n14);have gw:w2.grownBy (Zw ⟨r,0,none⟩ ⟨w2.heap.size,0,none⟩ (w2.alloc n14)) none:=⟨gr.os,gr.tape,gr.output,Nat.le_trans b3.size gr.size,fun j hj _=>(gr.block j (Nat.lt_of_lt_of_le hj b3.size) (fun e=>by have:=Option.some.inj e;omega)).trans (b3.block j hj)⟩;have bA:Below w2.heap.size w2 (Zw ⟨r,0,none⟩ ⟨w2.heap.size,0,none⟩ (w2.alloc n14)):=below_grown gw nr (fun j e=>by cases e);have TT:=hid (ZR (e:=⟨r,0,none⟩) t3);have A4:=hid (Af A2.out bA);have H0:=hid (G0.out.below bA);have H2:=hid (G2.out.below bA);have R4:=hid (BR.out.below bA);clear b3 t3 tc gr gw bA;go_wp2_with fail
  refine AS.out.mono ?_;rintro e w4 ⟨rfl,hw4⟩;rw[<-hw4]at TT A4 H0 H2 R4;clear hw4 AS;have EK:Hid (∀args w,(callFunc 21 args).run prog w= .ok (.enter 21 args) w):=hid (enters_of func21 (by kernel_rfl) rfl);have PK:Hid (Calls prog 21 #[.agg #[.slice k.ta k.tn k.tk,.slice k.oa k.on k.ok]] w4.drew fun e w'=>∃v,e= .returned v/\∃(lt:List Ae) (lo:List Ab) (ta oa:Option Addr) (ca co:Nat),v= .agg #[.slice ta lt.length ca,.slice oa lo.length co]/\BJ w' w4.heap.size (.slice ta lt.length ca) (.slice oa lo.length co) lt lo/\Apart lt lo/\k.same (Bo ta ca oa co lt lo)/\Below w4.heap.size w4.drew w'):=hid ((If k w4.drew ((HK.out.below A4.out).below (Below.refl _ w4).drew) (Le OK.out)).mono fun e w' hh=>by
   obtain⟨lt,lo,ta,oa,ca,co,rfl,h1,h2,_,h4,h5⟩:=hh;exact⟨_,rfl,lt,lo,ta,oa,ca,co,rfl,h1,h2,h4,h5⟩)
  go_upto_region 6 with fail
  obtain⟨x0,x1⟩:=(show Ag w4.drew w.heap.size _ from H0.out).two;obtain⟨r0,r1⟩:=(show Ag w4.drew (w.heap.size+2) _ from H2.out).two;have rf:=(show Ag w4.drew (w.heap.size+2) _ from H2.out).jC;have t0:w4.drew.cell? ⟨w2.heap.size,0,none⟩=some (.pointer r):=Ag.c1 (show Ag w4.drew w2.heap.size _ from TT.out);obtain⟨q0,q1⟩:=(show Ag w4.drew r _ from R4.out).two;have n1:¬r=w.heap.size+1+1:=by omega
  have n2:¬w.heap.size+1+1=r:=by omega
  have n3:¬r=w.heap.size+2:=by omega
  have n4:¬w.heap.size+2=r:=by omega
  have n5:¬w2.heap.size=w.heap.size+1+1:=by omega
  have n6:¬w.heap.size+1+1=w2.heap.size:=by omega
  have n7:¬w2.heap.size=w.heap.size+2:=by omega
  have n8:¬w.heap.size+2=w2.heap.size:=by omega
  go_region_law(refine Dk (by rfl) 21 _ _ (by rfl) EK.out _ (by rfl) _ PK.out ?_;rintro v w5 ⟨lt5,lo5,ta,oa,ca,co,rfl,ks,ap,sm,b5⟩;have b5':Below w4.heap.size w4 w5:=Af (Below.refl w4.heap.size w4).drew b5;have K5:=hid ks;have AP5:=hid ap;have SM5:=hid sm;have A5:=hid (Af A4.out b5');have J2:=hid (H2.out.below b5');have JT:=hid (TT.out.below b5');have JR:=hid (R4.out.below b5');obtain⟨u0,u1⟩:=J2.out.two;have uf:=J2.out.jC;have v0:w5.cell? ⟨w2.heap.size,0,none⟩=some (.pointer r):=JT.out.c1;obtain⟨m0,m1⟩:=JR.out.two;clear ks ap sm b5 b5')
  all_goals(
   go_wp2;have n17:Nv (.slice ta lt5.length ca):=⟨⟩;have n18:Nv (.slice oa lo5.length co):=⟨⟩;have gq:=Hg w5 (w.heap.size+2) n17 n18;have bb:Below w.heap.size w ((w5.setCell ⟨w.heap.size+2,0,none⟩ n17).setCell ⟨w.heap.size+2,1,none⟩ n18):=A5.out.trans (below_grown gq A5.out.size (fun j e=>by have:=Option.some.inj e;omega));have tw:=Zl SM5.out SM.out;have w4l:w.heap.size+2<w4.heap.size:=H2.out.lt;exact bodyPost_ret (IG _ _ (w.heap.size+2) n17 n18 _ _ ((J2.out.jB (i:=0) _).jB (i:=1) _) rfl rfl rfl) rfl ⟨bb,_,_,_,rfl,.inr ⟨OK.out,lt,lo,lt5,lt,lo5,lo,ta,oa,ca,co,SM.out,rfl,(K5.out.f.past gq (by omega)).base (by omega),AP5.out,tw.1,tw.2,DP.out⟩⟩)
 ·have OK:=hid ok;have SM:=hid sm;have KS:=hid (ks.below BB.out);have AP:=hid ap;have SO:=hid so;have DP:=hid dp;have EKV:=hid ekv;clear ekv;have n16:No (.cells #[.slice ga n1 c1,.slice qa n2 c2] 27):=⟨⟩;have IS:=hid (Yv 259 (.pointer (some (E 0))) (w1.alloc n16));clear ok sm ks ap so dp HH;go_wp2_with fail
  generalize w1.alloc n16=w2 at *;refine IS.out.mono ?_;rintro e w3 ⟨rfl,hw3⟩;have hw4:=hw3.symm;subst hw4;clear hw3 IS;have n15:No (.cells #[.pointer none] 61):=⟨⟩;have b3:=(Below.refl _ w2).alloc nr n15;have A4:=hid (Af A2.out b3);have H2:=hid (G2.out.below b3);have H7:=hid (G7.out.below b3);have K4:=hid (KS.out.below b3);have AS:=hid (Zd (.iface 63 (.pointer (w2.heap.size))) (w2.alloc n15));clear b3;go_wp2_with fail
  generalize w2.alloc n15=w4 at *;refine AS.out.mono ?_;rintro e w5 ⟨rfl,hw5⟩;have hw6:=hw5.symm;subst hw6;clear hw5 AS;obtain⟨r0,r1⟩:=H2.out.two;have rf:=H2.out.jC;obtain⟨x0,x1⟩:=H7.out.two;go_wp2;have gq:=Hg w4 (w.heap.size+2) (.slice ga n1 c1) (.slice qa n2 c2);have bb:Below w.heap.size w ((w4.setCell ⟨w.heap.size+2,0,none⟩ (.slice ga n1 c1)).setCell ⟨w.heap.size+2,1,none⟩ (.slice qa n2 c2)):=A4.out.trans (below_grown gq A4.out.size (fun j e=>by have:=Option.some.inj e;omega));have KF:=(K4.out.past gq s0).base (show w.heap.size<=w0.heap.size by omega);refine bodyPost_ret (IG _ _ (w.heap.size+2) (.slice ga n1 c1) (.slice qa n2 c2) _ _ ((H2.out.jB (i:=0) _).jB (i:=1) _) rfl rfl rfl) rfl ⟨bb,_,_,_,rfl,.inr ⟨OK.out,lt,lo,lt',lt',lo',lo2,some ⟨g,0,none⟩,some ⟨q,0,none⟩,ca,co,SM.out,?_,KF,AP.out,Kq.refl _,SO.out,DP.out⟩⟩;exact EKV.out
theorem ZO{k:Aw}(ok:Bj k=true):∀i,i<k.on->0<=(k.O i).id/\(k.O i).id<=1000000:=fun i hi=>by
 have h:=Bt.1 ok;by_cases h0:i=0
 ·subst h0;have r:=h.root;unfold FJ at r;simp only[Bool.and_eq_true,beq_iff_eq]at r;omega
 ·obtain⟨t,h1,h2,h3,h4⟩:=EJ h.thr (h.num i (by omega) hi);have f:=(Dn h.thr).2.2 t h1;unfold Et at f;simp only[Bool.and_eq_true]at f;have g:=Gw.1 f.1;have:=g.id;have:=g.made;omega
theorem I4{x:Int}(h:0<=x/\x<=1000000):(Lit.int .i64 x).wf=true:=by
 have e1:IntKind.i64.min= -9223372036854775808:=by decide
 have e2:IntKind.i64.max=9223372036854775807:=by decide
 simp[Lit.wf,e1,e2];omega
theorem Mo(k:Aw)(w:World)(hk:k.at w)(ok:Bj k=true)(s:Al)(hs:s.at w):
 Calls prog 7 #[.agg #[.slice k.ta k.tn k.tk,.slice k.oa k.on k.ok],.agg s] w fun e w'=>∃(lt:List Ae) (lo:List Ab) (lt':List Ae) (lo':List Ab) (ta:Option Addr) (ca:Nat) (oa:Option Addr) (co:Nat) (c:Int) (tx:ByteArray),e= .returned (.tuple #[.agg #[.slice ta lt'.length ca,.slice oa lo'.length co],.int .i64 c,.string tx])/\BJ w' w (.slice ta lt'.length ca) (.slice oa lo'.length co) lt' lo'/\Below w w w'/\k.same (Bo none 0 none 0 lt lo)/\Hc lt lo s c tx lt' lo':=by
 have n1:No (.cells s 32):=⟨⟩;have n3:Na #[.slice k.ta k.tn k.tk,.slice k.oa k.on k.ok]:=⟨⟩;have n4:No (.cells #[.slice none 0 0,.slice none 0 0] 27):=⟨⟩;have n2:Nw (((w.alloc (.cells n3 27)).alloc n1).alloc n4):=⟨⟩;have b0:Below w w n2:=((Bf w _).alloc (by simp) _).alloc (by simp;omega) _;have A0:Ag n2 w (.cells n3 27):=((Ag.new w _).alloc _).alloc _;have P0:Ag n2 (w.heap.size+1) n1:=by have:=(Ag.new (w.alloc (.cells n3 27)) n1).alloc n4;simpa using this
 have R0:Ag n2 (w.heap.size+1+1) n4:=by have:=Ag.new ((w.alloc (.cells n3 27)).alloc n1) n4;simpa using this
 have HK:=hid hk;have OK:=hid ok;have SA:=hid hs;have HB:=hid b0;have HA:=hid A0;have HP:=hid P0;have HR:=hid R0;clear b0 A0 P0 R0 hk ok hs;go_enter func7,ntmps7
 obtain⟨x0,x1⟩:=HA.out.two;obtain⟨s0,s1,s2,s3,s4,s5,s6,s7,s8,s9⟩:=HP.out.jE;go_wp2_with fail
 clear x0 x1 s0 s1 s2 s3 s4 s5 s6 s7 s8 s9;have S0:=hid HB.out.size;generalize (n2:World)=V at *;have C1:Hid (Calls prog 22 #[.agg n3] V fun e w'=>e= .returned (.bool true)/\Below V V w'):=hid (by
  have h:=Mj k V (HK.out.below HB) (fun i hi=>I4 (ZO OK i hi));rw[OK.out]at h;exact h)
 refine C1.out.mono ?_;rintro e w1 ⟨rfl,hb1⟩;have B1:=hid hb1;have L1:=hid (Af HB hb1);clear hb1;obtain⟨x0,x1⟩:=(HA.out.below B1).two;obtain⟨s0,s1,s2,s3,s4,s5,s6,s7,s8,s9⟩:=(HP.out.below B1).jE;go_wp2_with fail
 refine(TJ k w1 (HK.out.below L1) OK s (SA.out.below L1)).mono ?_;rintro e w2 ⟨lt,lo,lt',lo',ta,ca,oa,co,c,tx,rfl,k2,b2,sm,dp⟩;have K2:=hid (k2.base L1.out.size);have L2:=hid (Af L1 b2);have SM:=hid sm;have DP:=hid dp;have RB:=hid ((HR.out.below B1).below b2);clear k2 b2 sm dp x0 x1 s0 s1 s2 s3 s4 s5 s6 s7 s8 s9;obtain⟨r0,r1⟩:=RB.out.two;have rf:=RB.out.jC;go_wp2;refine bodyPost_ret (Ak _ _ (w.heap.size+1+1) 4 _ _ _ _ Tryz.results7 ((RB.out.jB (i:=0) _).jB (i:=1) _) rfl rfl rfl) rfl ⟨lt,lo,lt',lo',ta,ca,oa,co,c,tx,rfl,?_,?_,SM,DP⟩
 ·exact(K2.out.set RB (.inl rfl) _).set (RB.out.jB (i:=0) _) (.inl rfl) _
 ·exact(L2.out.setCell (by dsimp only;omega) _).setCell (by dsimp only;omega) _
theorem Q8(k:Aw)(w:World)(hk:k.at w)(ok:Bj k=false)(hw:∀i,i<k.on->(Lit.int .i64 (k.O i).id).wf=true)(s:Al):
 Calls prog 7 #[.agg #[.slice k.ta k.tn k.tk,.slice k.oa k.on k.ok],.agg s] w fun e w'=>e= .returned (.tuple #[.agg #[.slice none 0 0,.slice none 0 0],.int .i64 1,.string ⟨#[]⟩])/\Below w w w':=by
 have n1:No (.cells s 32):=⟨⟩;have n3:Na #[.slice k.ta k.tn k.tk,.slice k.oa k.on k.ok]:=⟨⟩;have n4:No (.cells #[.slice none 0 0,.slice none 0 0] 27):=⟨⟩;have n2:Nw (((w.alloc (.cells n3 27)).alloc n1).alloc n4):=⟨⟩;have b0:Below w w n2:=((Bf w _).alloc (by simp) _).alloc (by simp;omega) _;have A0:Ag n2 w (.cells n3 27):=((Ag.new w _).alloc _).alloc _;have P0:Ag n2 (w.heap.size+1) n1:=by have:=(Ag.new (w.alloc (.cells n3 27)) n1).alloc n4;simpa using this
 have R0:Ag n2 (w.heap.size+1+1) n4:=by have:=Ag.new ((w.alloc (.cells n3 27)).alloc n1) n4;simpa using this
 have HK:=hid hk;have OK:=hid ok;have HB:=hid b0;have HA:=hid A0;have HP:=hid P0;have HR:=hid R0;clear b0 A0 P0 R0 hk ok;go_enter func7,ntmps7
 obtain⟨x0,x1⟩:=HA.out.two;obtain⟨s0,s1,s2,s3,s4,s5,s6,s7,s8,s9⟩:=HP.out.jE;go_wp2_with fail
 clear x0 x1 s0 s1 s2 s3 s4 s5 s6 s7 s8 s9;have S0:=hid HB.out.size;generalize (n2:World)=V at *;have C1:Hid (Calls prog 22 #[.agg n3] V fun e w'=>e= .returned (.bool false)/\Below V V w'):=hid (by
  have h:=Mj k V (HK.out.below HB) hw;rw[OK.out]at h;exact h)
 refine C1.out.mono ?_;rintro e w1 ⟨rfl,hb1⟩;have B1:=hid hb1;have L1:=hid (Af HB hb1);clear hb1;have RB:=hid (HR.out.below B1);obtain⟨r0,r1⟩:=RB.out.two;have rf:=RB.out.jC;go_wp2;refine bodyPost_ret (Ak _ _ (w.heap.size+1+1) 4 _ _ _ _ Tryz.results7 ((RB.out.jB (i:=0) _).jB (i:=1) _) rfl rfl rfl) rfl ⟨rfl,?_⟩;exact(L1.out.setCell (by dsimp only;omega) _).setCell (by dsimp only;omega) _
variable {l m lt lt2:List Ae}{k:Aw}{lo lo2:List Ab}
theorem Tf.of_nm(h:Tf (l.map Ae.nm) (m.map Ae.nm)):Tf l m:=
 ⟨by simpa using h.1,fun j hj=>by
   have e:=h.2 j (by simpa using hj);rw[YL,YL]at e;exact e⟩
theorem RE.of_nm{l m:List Ab}(h:RE (l.map Ab.nm) (m.map Ab.nm)):RE l m:=
 ⟨by simpa using h.1,fun j hj=>by
   have e:=h.2 j (by simpa using hj);rw[It,It]at e;exact e⟩
theorem WU{x y z:Ae}(a:x.same y)(b:x.same z):y.nm=z.nm:=by
 obtain⟨a1,a2,a3,a4,a5,a6,a7⟩:=a;obtain⟨b1,b2,b3,b4,b5,b6,b7⟩:=b;unfold Ae.nm Ar.nm AJ.nm;rw[a1,b1,a2,b2,a3.1,b3.1,a3.2.1,b3.2.1,a3.2.2,b3.2.2,a4,b4,a5.1,b5.1,a5.2.1,b5.2.1,a5.2.2,b5.2.2,a6.1,b6.1,a6.2,b6.2,a7,b7]
theorem Yl{x y z:Ab}(a:x.same y)(b:x.same z):y.nm=z.nm:=by
 obtain⟨a1,a2,a3,a4,a5,a6,a7,a8,a9,a10⟩:=a;obtain⟨b1,b2,b3,b4,b5,b6,b7,b8,b9,b10⟩:=b;unfold Ab.nm Ar.nm AJ.nm AH.nm;rw[a1,b1,a2,b2,a3,b3,a4,b4,a5.1,b5.1,a5.2.1,b5.2.1,a5.2.2,b5.2.2,a6,b6,a7.1,b7.1,a7.2,b7.2,a8.1,b8.1,a8.2,b8.2,a9,b9,a10.1,b10.1,a10.2.1,b10.2.1,a10.2.2,b10.2.2]
theorem Ta(e:m.length=l.length)(h:∀j,j<l.length->(Ao l j).nm=(Ao m j).nm):l.map Ae.nm=m.map Ae.nm:=by
 refine List.ext_getElem (by simp[e]) fun j h1 h2=>?_;simp only[List.length_map]at h1 h2;have:=h j h1;rw[List.getElem_map,List.getElem_map];unfold Ao at this;rw[List.getD_eq_getElem?_getD,List.getD_eq_getElem?_getD,List.getElem?_eq_getElem h1,List.getElem?_eq_getElem h2]at this;exact this
theorem Ru{l m:List Ab}(e:m.length=l.length)(h:∀j,j<l.length->(Aa l j).nm=(Aa m j).nm):l.map Ab.nm=m.map Ab.nm:=by
 refine List.ext_getElem (by simp[e]) fun j h1 h2=>?_;simp only[List.length_map]at h1 h2;have:=h j h1;rw[List.getElem_map,List.getElem_map];unfold Aa at this;rw[List.getD_eq_getElem?_getD,List.getD_eq_getElem?_getD,List.getElem?_eq_getElem h1,List.getElem?_eq_getElem h2]at this;exact this
theorem X1(h:k.same (Bo none 0 none 0 lt lo))(h2:k.same (Bo none 0 none 0 lt2 lo2)):lt.map Ae.nm=lt2.map Ae.nm/\lo.map Ab.nm=lo2.map Ab.nm:=by
 refine⟨Ta (h2.1.trans h.1.symm) fun j hj=>?_,Ru (h2.2.2.1.trans h.2.2.1.symm) fun j hj=>?_⟩
 ·have hj':j<k.tn:=by have e:lt.length=k.tn:=h.1;omega
  exact WU (h.2.1 j hj') (h2.2.1 j hj')
 ·have hj':j<k.on:=by have e:lo.length=k.on:=h.2.2.1;omega
  exact Yl (h.2.2.2 j hj') (h2.2.2.2 j hj')
theorem TD{s:Al}{lt' lt2':List Ae}{lo' lo2':List Ab}{c c2:Int}{tx tx2:ByteArray}(h:k.same (Bo none 0 none 0 lt lo))(h2:k.same (Bo none 0 none 0 lt2 lo2))(p:Hc lt lo s c tx lt' lo')(p2:Hc lt2 lo2 s c2 tx2 lt2' lo2'):Vb c c2 tx tx2 lt' lt2' lo' lo2':=by
 obtain⟨et,eo⟩:=X1 h h2;have ea:Qn lt s.th=Qn lt2 s.th:=by rw[<-Tb lt,<-Tb lt2,et]
 have s1:Tf lt lt2:= .of_nm (by rw[et];exact .refl _);have s2:RE lo lo2:= .of_nm (by rw[eo];exact .refl _);cases p with
 |form a hc ht e1 e2=>
  cases p2 with
  |form a' hc' ht' e1' e2'=>exact⟨hc'.trans hc.symm,ht'.trans ht.symm,by rw[e1,e1'];exact s1,by rw[e2,e2'];exact s2⟩
  |thread a'=>rw[a]at a';cases a'
  |act a'=>rw[a]at a';cases a'
 |thread a hn hc ht e1 e2=>
  cases p2 with
  |form a'=>rw[a]at a';cases a'
  |thread a' hn' hc' ht' e1' e2'=>exact⟨hc'.trans hc.symm,ht'.trans ht.symm,by rw[e1,e1'];exact s1,by rw[e2,e2'];exact s2⟩
  |act a' t ht' hn' p2=>rw[<-ea,hn]at hn';cases hn'
 |act a t ht hn p=>
  cases p2 with
  |form a'=>rw[a]at a';cases a'
  |thread a' hn'=>rw[<-ea,hn]at hn';cases hn'
  |act a' t' ht' hn' p2=>
   rw[<-ea,hn]at hn';cases hn';have q:=XU p;have q2:=XU p2;have ex:lt[t].nm=lt2[t].nm:=by
    have e:(lt.map Ae.nm)[t]? =(lt2.map Ae.nm)[t]?:=(by rw[et]);rw[List.getElem?_map,List.getElem?_map,List.getElem?_eq_getElem ht,List.getElem?_eq_getElem ht']at e;exact Option.some.inj e
   rw[<-ex,<-et,<-eo]at q2;obtain⟨z1,z2,z3,z4⟩:=WA q q2;exact⟨z1,z2,.of_nm z3,.of_nm z4⟩
theorem Tf.after{n:List Ae}(h:Kq l m)(h2:Tf m n):Tf l n:=⟨h2.1.trans h.1,fun j hj=>by
 have e:=h2.2 j (by rw[h.1];exact hj);obtain⟨a1,a2,a3,a4,a5,a6,a7⟩:=h.2 j hj;obtain⟨b1,b2,b3,b4,b5,b6,b7⟩:=e;exact⟨b1.trans a1,b2.trans a2,⟨b3.1.trans a3.1,fun i hi=>⟨(b3.2 i (by rw[a3.1];exact hi)).1.trans (by rw[a3.2.1]),(b3.2 i (by rw[a3.1];exact hi)).2.trans (by rw[a3.2.2])⟩⟩,b4.trans a4,⟨b5.1.trans a5.1,fun i hi=>⟨(b5.2 i (by rw[a5.1];exact hi)).1.trans (by rw[a5.2.1]),(b5.2 i (by rw[a5.1];exact hi)).2.trans (by rw[a5.2.2])⟩⟩,⟨b6.1.trans a6.1,fun i hi=>(b6.2 i (by rw[a6.1];exact hi)).trans (by rw[a6.2])⟩,b7.trans a7⟩⟩
theorem RE.after{l m n:List Ab}(h:IQ l m)(h2:RE m n):RE l n:=⟨h2.1.trans h.1,fun j hj=>by
 have e:=h2.2 j (by rw[h.1];exact hj);obtain⟨a1,a2,a3,a4,a5,a6,a7,a8,a9,a10⟩:=h.2 j hj;obtain⟨b1,b2,b3,b4,b5,b6,b7,b8,b9,b10⟩:=e;exact⟨b1.trans a1,b2.trans a2,b3.trans a3,b4.trans a4,⟨b5.1.trans a5.1,fun i hi=>⟨(b5.2 i (by rw[a5.1];exact hi)).1.trans (by rw[a5.2.1]),(b5.2 i (by rw[a5.1];exact hi)).2.trans (by rw[a5.2.2])⟩⟩,b6.trans a6,⟨b7.1.trans a7.1,fun i hi=>(b7.2 i (by rw[a7.1];exact hi)).trans (by rw[a7.2])⟩,⟨b8.1.trans a8.1,fun i hi=>(b8.2 i (by rw[a8.1];exact hi)).trans (by rw[a8.2])⟩,b9.trans a9,⟨b10.1.trans a10.1,fun i hi=>⟨(b10.2 i (by rw[a10.1];exact hi)).1.trans (by rw[a10.2.1]),(b10.2 i (by rw[a10.1];exact hi)).2.trans (by rw[a10.2.2])⟩⟩⟩⟩
variable {n t:Nat}{X:Ae}{lt lt':List Ae}{L:List Int}{h:Nat->Int}{c:Int}{s:Al}{lo lo':List Ab}{tx:ByteArray}{o:Ab}
theorem NF{b:Int}{c d:Ar}(h:c.same d)(hl:Bb b c.n c.f c.g=true):Bb b d.n d.f d.g=true:=by
 obtain⟨h1,h2,h3⟩:=h;rw[h1,h2,h3];exact hl
theorem Oj{T:Nat->Ae}(h:By n T=true):Du (fun i=>(T i).id) n:=KJ fun i i0 hi=>by
 have:=(Dn h).2.2 i hi;unfold Et at this;simp only[Bool.and_eq_true,Bool.or_eq_true,decide_eq_true_eq,beq_iff_eq]at this;rcases this.2 with e|e
 ·omega
 ·exact e
theorem Vz(h:JO X):1001<=Aq X/\Aq X<=9999:=by
 have:=h.id;have:=h.made;unfold Aq;omega
theorem Ty(ht:t<lt.length):lt.set t lt[t]=lt:=Fl ht
theorem Yr(h:JO X)(hn:¬X.own.n=10)(e:L=DT ((List.range X.own.n).map X.own.h) (Aq X)):Ci L.length (AV L)=true:=by
 obtain⟨h1,h2,h3⟩:=Hd.1 h.own;subst e;refine Nf ?_ (JI h2) (fun x hx=>?_)
 ·have:=Ku ((List.range X.own.n).map X.own.h) (Aq X);simp at this;omega
 ·rcases On hx with hx|hx
  ·exact h3 x hx
  ·have:=Vz h;omega
theorem Rt{x:Int}(hx:x∈Dc h c n):x∈(List.range n).map h:=(List.mem_filter.1 hx).1
theorem XP(ho:Ci n h=true):Ci (Dc h c n).length (AV (Dc h c n))=true:=by
 obtain⟨h1,h2,h3⟩:=Hd.1 ho;refine Nf ?_ (h2.filter _) (fun x hx=>h3 x (Rt hx));have:=Ls h c n;omega
theorem Rr:∀{q:Nat}{x:Int},x∈DY L h q->x∈L∨∃i,i<q/\x=h i
 |0,x,hx=> .inl hx
 |q+1,x,hx=>by
  rcases On hx with hx|hx
  ·rcases Rr hx with hx|⟨i,hi,e⟩
   ·exact .inl hx
   ·exact .inr ⟨i,by omega,e⟩
  ·exact .inr ⟨q,by omega,hx⟩
theorem Ob(hL:L.Pairwise (· <·)):∀q,(DY L h q).Pairwise (· <·)
 |0=>hL
 |q+1=>JI (Ob hL q)
theorem LY:BI ⟨#[]⟩ 40=true:=by decide
theorem VZ(sf:US s){d1 d2:Ar}{ow:AJ}(hk:s.kind=2∨s.kind=3∨s.kind=4∨s.kind=5)(e1:s.c1.same d1)(e2:if s.kind=5 then s.c2.same d2 else d2=An)(e3:if 0<s.cat then ow.n=1/\ow.h 0=s.cat else ow=Fp):MA (newObj X s d1 d2 ow):=by
 have hw:Ci ow.n ow.h=true:=by
  by_cases h:0<s.cat
  ·rw[if_pos h]at e3;have hc:=sf.cat;have e:(s.cat==0)=false:=(by simp only[beq_eq_false_iff_ne,ne_eq];omega);unfold M8 at hc;rw[e]at hc;simp only[Bool.false_eq_true,if_false,Bool.and_eq_true,Ep]at hc;rw[e3.1];simp[Ci,DZ,e3.2,Ei];omega
  ·rw[if_neg h]at e3;rw[e3];rfl
 have h2:Bb (newObj X s d1 d2 ow).b2 d2.n d2.f d2.g=true:=by
  unfold newObj;by_cases h:s.kind=5
  ·rw[if_pos h]at e2;simp only[if_pos h];exact NF e2 sf.l2
  ·rw[if_neg h]at e2;simp only[if_neg h];rw[e2];rfl
 refine⟨NF e1 sf.l1,h2,hw,LY,rfl,?_⟩;have ce:=IJ sf;have noCat:s.kind≠5->ow=Fp:=fun h=>by
  have:=ce.1 (by omega);rw[if_neg (by omega)]at e3;exact e3
 unfold newObj Hl;rcases hk with h|h|h|h
 ·have e4:=noCat (by omega);rw[if_neg (by omega)]at e2;subst e2;subst e4;simp[h,Dz,An,Fp]
 ·have e4:=noCat (by omega);rw[if_neg (by omega)]at e2;subst e2;subst e4;simp[h,Dz,An,Fp]
 ·have e4:=noCat (by omega);rw[if_neg (by omega)]at e2;subst e2;subst e4;simp[h,Dz,An,Fp]
 ·simp[h]
theorem Ym(ok:okL lt lo=true)(ht:t<lt.length)(so:s.ok=true)(hk:s.kind=2∨s.kind=3∨s.kind=4∨s.kind=5)(p:UT lt[t] s lt lo t c tx lt' lo'):okL lt' lo'=true:=by
 rcases p with⟨_,_,_,rfl,rfl⟩|⟨_,_,_,_,rfl,rfl⟩|⟨_,mb,m30,_,rfl,d1,d2,ow,e1,e2,e3,rfl⟩
 ·exact ok
 ·exact ok
 ·have X:=Ef ok _ (List.getElem_mem ht);have m1:=X.made;have i1:=X.id;have ok1:=Jp ok ht (x:=⟨lt[t].id,lt[t].b1,lt[t].c1,lt[t].b2,lt[t].c2,lt[t].own,lt[t].made+1⟩) ⟨X.id,X.l1,X.l2,X.own,by dsimp only;omega⟩ rfl (by dsimp only;omega);unfold FU at mb;cases hu:Gl lo s.id with
  |none=>rw[hu]at mb;cases mb
  |some u=>
   rw[hu]at mb;simp only[Bool.and_eq_true,decide_eq_true_eq]at mb;have kk:=Bt.1 ok;have k1:=Bt.1 ok1;have nc:Aq lt[t]=1000*lt[t].id+lt[t].made+1:=rfl;refine YK ok1 (VZ (GB so) hk e1 e2 e3) ?_ hu mb.1.1.1.1 (fun j hj=>?_) (by show 1<Aq lt[t];omega)
   ·have et:Ao (lt.set t (⟨lt[t].id,lt[t].b1,lt[t].c1,lt[t].b2,lt[t].c2,lt[t].own,lt[t].made+1⟩:Ae)) t=⟨lt[t].id,lt[t].b1,lt[t].c1,lt[t].b2,lt[t].c2,lt[t].own,lt[t].made+1⟩:=by
     have:=QN (l:=lt) (t:=t) (j:=t) (x:=(⟨lt[t].id,lt[t].b1,lt[t].c1,lt[t].b2,lt[t].c2,lt[t].own,lt[t].made+1⟩:Ae)) (z:=Ae.z) ht;rw[if_pos rfl]at this;exact this
    refine Rn k1.thr (t:=t) (by simpa[Bo]using ht) ?_ ?_ ?_
    ·show(Ao _ t).id=Aq lt[t]/1000;rw[et];show lt[t].id=Aq lt[t]/1000;omega
    ·show 1<=Aq lt[t]%1000;omega
    ·show Aq lt[t]%1000<=(Ao _ t).made;rw[et];show Aq lt[t]%1000<=lt[t].made+1;omega
   ·intro e;have e':(Aa lo j).id=Aq lt[t]:=e;by_cases h0:j=0
    ·subst h0;have:=(FF ok).2.1;omega
    ·obtain⟨t',h1,h2,h3,h4⟩:=EJ kk.thr (kk.num j (by omega) hj);have g1:(Ao lt t').id=(Aa lo j).id/1000:=h2;have g2:(Aa lo j).id%1000<=(Ao lt t').made:=h4;have g3:(Ao lt t).id=lt[t].id:=(by rw[Cy ht]);have e3:t'=t:=(Oj kk.thr).inj h1 ht (by show(Ao lt t').id=(Ao lt t).id;rw[g1,g3,e'];omega);subst e3;rw[Cy ht,e']at g2;omega
theorem UL(f:MA o){d:ByteArray}(h1:o.kind=1)(hd:BI d 40=true):MA ⟨o.id,o.kind,o.up,o.b1,o.c1,d,o.jA,o.own,o.b2,o.c2⟩:=by
 refine⟨f.l1,f.l2,f.own,hd,f.jA,?_⟩;have:=f.kind;unfold Hl at this ⊢;simp only[h1,if_true]at this ⊢;exact this
theorem Sb(f:MA o){d:AH}(h1:o.kind=2)(hd:Ey d.n d.f=true):MA ⟨o.id,o.kind,o.up,o.b1,o.c1,o.data,d,o.own,o.b2,o.c2⟩:=by
 refine⟨f.l1,f.l2,f.own,f.data,hd,?_⟩;have:=f.kind;unfold Hl at this ⊢;simp only[h1]at this ⊢;exact this
theorem JC{f:Nat->ByteArray}:Ey n f=true↔n<=8/\∀i,i<n->BI (f i) 40=true:=by
 unfold Ey;simp only[Bool.and_eq_true,decide_eq_true_eq,List.all_eq_true,List.mem_range]
theorem Zb(ok:okL lt lo=true)(ht:t<lt.length)(so:s.ok=true)(p:FA lt[t] s lt lo t c tx lt' lo'):okL lt' lo'=true:=by
 have X:=Ef ok _ (List.getElem_mem ht);have sf:=GB so;cases p with
 |k1 h x e1 e2 p=>
  subst e1 e2;rcases p with⟨_,_,rfl,_⟩|⟨_,hn,_,a,cc,rfl⟩
  ·rw[Ty ht];exact ok
  ·have:=X.made;exact Jp ok ht ⟨X.id,X.l1,X.l2,Yr X (fun e=>hn (.inr e)) rfl,by dsimp only;omega⟩ rfl (by dsimp only;omega)
 |k12 h x e1 e2 e3 p=>
  subst e1 e2;rcases p with⟨_,_,rfl⟩|⟨_,_,d,sd,rfl⟩
  ·rw[Ty ht];exact ok
  ·exact Jp ok ht ⟨X.id,NF sd sf.l1,X.l2,X.own,X.made⟩ rfl (Int.le_refl _)
 |k14 h x e1 e2 e3 p=>
  subst e1 e2;rcases p with⟨_,_,rfl⟩|⟨_,_,a,cc,rfl⟩
  ·rw[Ty ht];exact ok
  ·exact Jp ok ht ⟨X.id,X.l1,X.l2,XP X.own,X.made⟩ rfl (Int.le_refl _)
 |make h p=>exact Ym ok ht so h p
 |drop h e1 e3 p=>
  subst e1;rcases p with⟨_,_,rfl⟩|⟨_,_,u,hu,u0,rfl⟩
  ·exact ok
  ·exact Yq ok hu u0
 |k6 h p=>
  rcases p with⟨_,_,_,rfl,rfl⟩|⟨u,hu,⟨_,_,_,rfl,rfl⟩|⟨_,_,_,rfl,rfl⟩⟩
  ·exact ok
  ·exact ok
  ·obtain⟨_,ul,i1,k1,_⟩:=Dx hu;rw[Az ul];exact KQ ok ul (UL (Ed ok _ (List.getElem_mem ul)) k1 sf.data) rfl rfl rfl
 |k7 h p=>
  rcases p with⟨_,_,_,rfl,rfl⟩|⟨u,hu,_,_,rfl,rfl⟩
  ·exact ok
  ·exact ok
 |k8 h p=>
  rcases p with⟨_,_,_,rfl,rfl⟩|⟨u,hu,⟨_,_,_,rfl,rfl⟩|⟨v,hv,⟨_,_,_,rfl,rfl⟩|⟨kv,_,_,_,rfl,rfl⟩⟩⟩
  ·exact ok
  ·exact ok
  ·exact ok
  ·obtain⟨_,ul,_⟩:=Dx hu;obtain⟨vl,_⟩:=Gq hv;rw[Az vl]at kv;rw[Az vl,Az ul];exact KQ ok vl (UL (Ed ok _ (List.getElem_mem vl)) kv (Ed ok _ (List.getElem_mem ul)).data) rfl rfl rfl
 |k9 h p=>
  rcases p with⟨_,_,_,rfl,rfl⟩|⟨u,hu,⟨_,_,_,rfl,rfl⟩|⟨_,_,_,_,rfl,rfl⟩|⟨_,n8,_,_,rfl,a,c',rfl⟩⟩
  ·exact ok
  ·exact ok
  ·exact ok
  ·obtain⟨_,ul,i1,k1,_⟩:=Dx hu;rw[Az ul]at n8 ⊢;have f:=Ed ok _ (List.getElem_mem ul);have it:=JC.1 f.jA;refine KQ ok ul (Sb f k1 (JC.2 ⟨by dsimp only;omega,fun i hi=>?_⟩)) rfl rfl rfl;dsimp only;unfold Do;split
   ·rename_i h1;exact it.2 i h1
   ·exact sf.data
 |k10 h p=>
  rcases p with⟨_,_,_,rfl,rfl⟩|⟨u,hu,⟨_,_,_,rfl,rfl⟩|⟨_,_,_,_,rfl,rfl⟩|⟨_,n0,_,_,rfl,a,c',rfl⟩⟩
  ·exact ok
  ·exact ok
  ·exact ok
  ·obtain⟨_,ul,i1,k1,_⟩:=Dx hu;rw[Az ul]at n0 ⊢;have f:=Ed ok _ (List.getElem_mem ul);have it:=JC.1 f.jA;refine KQ ok ul (Sb f k1 (JC.2 ⟨by dsimp only;omega,fun i hi=>?_⟩)) rfl rfl rfl;dsimp only at hi ⊢;exact it.2 (i+1) (by omega)
 |k13 h p=>
  rcases p with⟨_,_,_,rfl,rfl⟩|⟨u,hu,⟨_,_,_,rfl,rfl⟩|⟨_,_,_,_,rfl,rfl⟩|⟨_,nb,_,_,a,c',rfl,rfl⟩⟩
  ·exact ok
  ·exact ok
  ·exact ok
  ·obtain⟨_,ul,i1,k1,_⟩:=Dx hu;rw[Az ul]at nb ⊢;have f:=Ed ok _ (List.getElem_mem ul);obtain⟨_,x2,x3⟩:=Hd.1 X.own;obtain⟨_,_,f3⟩:=Hd.1 f.own;refine Jp ok ht ⟨X.id,X.l1,X.l2,Nf (by omega) (Ob x2 _) (fun x hx=>?_),X.made⟩ rfl (Int.le_refl _);rcases Rr hx with hx|⟨i,hi,rfl⟩
   ·exact x3 x hx
   ·exact f3 _ (List.mem_map.2 ⟨i,List.mem_range.2 hi,rfl⟩)
 |k15 h p=>
  rcases p with⟨_,_,_,rfl,rfl⟩|⟨u,hu,_,_,rfl,rfl⟩
  ·exact ok
  ·exact ok
theorem Kx(ok:okL lt lo=true)(p:Hc lt lo s c tx lt' lo'):okL lt' lo'=true:=by
 cases p with
 |form h hc ht e1 e2=>subst e1 e2;exact ok
 |thread h hn hc ht e1 e2=>subst e1 e2;exact ok
 |act h t ht hn p=>exact Zb ok ht h p
end Go.Proofs.YteoihknaljgocaaGreatDoor
