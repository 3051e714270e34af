import Derived.Test.YtdaccbddcjlkpaaGreatDoorDWVp
set_option maxRecDepth 100000
set_option maxHeartbeats 16000000
namespace Go.Proofs.YtdaccbddcjlkpaaGreatDoor
open Go Go.RowKit Go.Deep Go.Extern.Stop Go.Stop Go.Extern Go.Proofs.Tryz
open Go.Value renaming pointer→pT,agg→qY
open Go.Obj renaming cells→qG
open Go.World renaming cell?_alloc_lt→xX,frozen?_alloc_old→xq,cell?→xW
open Go.Result renaming andThen→zJ
open Go renaming World→qM,Value→qB
theorem YK(t:Addr)(w:qM):(ReflectliteValue.unpack (.iface 143 (pT (some t)))).run prog w
 = .ok (qY #[pT (some ⟨18,143,none⟩),pT (w),.int .u64 150]) (w.alloc (qG #[pT (some t)] 143)):=by kernel_rfl
theorem eU(a:Addr)(w:qM):(ReflectliteValue.methodAny (ReflectliteValue.valueError "reflectlite.Value.Type" 0) (fun t _ _ _=>ReflectliteType.toType t) #[qY #[pT (some ⟨18,143,none⟩),pT (some a),.int .u64 150]]).run prog w
 = .ok (.iface 209 (qY #[pT (some ⟨18,143,none⟩)])) w:=by kernel_rfl
theorem cF(h:qB)(w:qM):(Go.method 446 209 (qY #[h]) "Kind").run prog w= .ok (261,h) w:=by kernel_rfl
theorem Ze(w:qM):((ReflectliteType.abiMethod fun t=>(fun a:Nat=>Value.int IntKind.u8 (a:Int))<$>Rtype.kind t) #[pT (some ⟨18,143,none⟩)]).run prog w= .ok (.int .u8 22) w:=by kernel_rfl
theorem aS(w:qM):((ReflectliteType.abiMethod fun t=>(fun a:Nat=>Value.int IntKind.u8 (a:Int))<$>Rtype.kind t) #[pT (some ⟨18,141,none⟩)]).run prog w= .ok (.int .u8 22) w:=by kernel_rfl
theorem UY(z:Sem qB)(f:TypeId->Addr->Nat->Nat->Sem qB)(v:qB):
 ReflectliteValue.method z f #[v]=(do match <-ReflectliteValue.parts v with|none=>z|some (t,a,fl)=>f t a fl (fl%32)):=rfl
theorem QU(a:Addr)(w:qM):(ReflectliteValue.parts (qY #[pT (some ⟨18,143,none⟩),pT (some a),.int .u64 150])).run prog w= .ok (some (143,a,150)) w:=by kernel_rfl
theorem cO(a p:Addr)(W:qM)(ha:W.cell? a=some (pT (some p))):
 (ReflectliteValue.method (ReflectliteValue.valueError "reflectlite.Value.IsNil" 0) ReflectliteValue.isNil #[qY #[pT (some ⟨18,143,none⟩),pT (some a),.int .u64 150]]).run prog W= .ok (.bool false) W:=by
 rw[UY];simp only[Sem.run_bind,QU,zJ];simp[ReflectliteValue.isNil,loadVar,isAgg,underlying,underlying143,ha,zJ]
theorem cM(h:qB)(w:qM):(Go.method 446 209 (qY #[h]) "Elem").run prog w= .ok (274,qY #[h]) w:=by kernel_rfl
theorem cm(h:qB)(w:qM):(Go.method 446 209 (qY #[h]) "Implements").run prog w= .ok (275,qY #[h]) w:=by kernel_rfl
theorem dG(h:qB)(w:qM):(Go.method 446 209 (qY #[h]) "AssignableTo").run prog w= .ok (272,qY #[h]) w:=by kernel_rfl
theorem eV(w:qM):(ReflectliteType.method ReflectliteType.elem #[qY #[pT (some ⟨18,143,none⟩)]]).run prog w= .ok (.iface 209 (qY #[pT (some ⟨18,141,none⟩)])) w:=by kernel_rfl
theorem eY(w:qM):(ReflectliteType.relation "Implements" ReflectliteType.implements_ #[qY #[pT (some ⟨18,141,none⟩)],.iface 209 (qY #[pT (some ⟨18,137,none⟩)])]).run prog w= .ok (.bool true) w:=by kernel_rfl
theorem aR(v:qB)(w:qM):(ReflectliteType.typeOf #[.iface 141 v]).run prog w= .ok (.iface 209 (qY #[pT (some ⟨18,141,none⟩)])) w:=by kernel_rfl
theorem fD(w:qM):(ReflectliteType.relation "AssignableTo" ReflectliteType.assignableTo #[qY #[pT (some ⟨18,141,none⟩)],.iface 209 (qY #[pT (some ⟨18,141,none⟩)])]).run prog w= .ok (.bool true) w:=by kernel_rfl
theorem Uq(e:Addr)(w:qM):(ReflectliteValue.unpack (.iface 141 (pT (some e)))).run prog w
 = .ok (qY #[pT (some ⟨18,141,none⟩),pT (w),.int .u64 150]) (w.alloc (qG #[pT (some e)] 141)):=by kernel_rfl
theorem bO(w:qM):(Rtype.elem? 143).run prog w= .ok (some 141) w:=by kernel_rfl
theorem gF(p:Addr)(w:qM):(ReflectliteValue.mk 141 p ReflectliteValue.flagAddr).run prog w= .ok (qY #[pT (some ⟨18,141,none⟩),pT (some p),.int .u64 406]) w:=by kernel_rfl
theorem bj(a p:Addr)(W:qM)(ha:W.cell? a=some (pT (some p))):
 (ReflectliteValue.method (ReflectliteValue.valueError "reflectlite.Value.Elem" 0) ReflectliteValue.elem #[qY #[pT (some ⟨18,143,none⟩),pT (some a),.int .u64 150]]).run prog W
   = .ok (qY #[pT (some ⟨18,141,none⟩),pT (some p),.int .u64 406]) W:=by
 rw[UY];simp only[Sem.run_bind,QU,zJ];simp[ReflectliteValue.elem,loadVar,isAgg,underlying,underlying143,ha,zJ,bO,gF]
theorem VH(a:Addr)(w:qM):(ReflectliteValue.parts (qY #[pT (some ⟨18,141,none⟩),pT (some a),.int .u64 406])).run prog w= .ok (some (141,a,406)) w:=by kernel_rfl
theorem XH(a:Addr)(w:qM):(ReflectliteValue.parts (qY #[pT (some ⟨18,141,none⟩),pT (some a),.int .u64 150])).run prog w= .ok (some (141,a,150)) w:=by kernel_rfl
theorem Zg(w:qM):(Rtype.directlyAssignable 141 141).run prog w= .ok true w:=by kernel_rfl
theorem cv(v x:qB)(h1:qB->qB->Sem qB)(h2:Array qB->Sem qB):ReflectliteValue.set.match_3 (fun _=>Sem qB) #[v,x] h1 h2=h1 v x:=rfl
theorem fU(ta b e:Addr)(old:qB)(W:qM)(hb:W.cell? b=some (pT (some e)))(ht:W.cell? ta=some old)(hf:W.frozen? ta=false):
 (ReflectliteValue.set #[qY #[pT (some ⟨18,141,none⟩),pT (some ta),.int .u64 406],qY #[pT (some ⟨18,141,none⟩),pT (some b),.int .u64 150]]).run prog W
   = .ok (.tuple #[]) (W.setCell ta (pT (some e))):=by
 delta ReflectliteValue.set;rw[cv];simp only[Sem.run_bind,VH,XH,zJ];simp[ReflectliteValue.flagAddr,loadVar,isAgg,underlying,underlying141,hb,zJ,Zg,storeVar,Value.cells,storeCells,Addr.add];rw[run_store prog W ta _ _ qK];simp[ht,hf]
def dh(e t:Addr)(w:qM):qM:=((((w.alloc (qG #[pT (some t)] 143)).alloc (qG #[pT (some ⟨18,143,none⟩),pT (w),.int .u64 150] 184)).alloc (qG #[pT (some ⟨18,143,none⟩),pT (w),.int .u64 150] 184)).alloc (qG #[pT (some e)] 141)).setCell t (pT (some e))
theorem dJ(e t:Addr)(old:qB)(w:qM)(hg:w.cell? ⟨3,0,none⟩=some (.iface 209 (qY #[pT (some ⟨18,137,none⟩)])))(ht0:w.cell? t=some old)(hf0:w.frozen? t=false):
 Calls prog 81 #[.iface 141 (pT (some e)),.iface 143 (pT (some t))] w fun ev w'=>ev= .returned (.bool true)/\w'=dh e t w:=by
 have h60:=@run_callFunc_extern prog 121 _ (fun args=>ReflectliteValue.unpack (args.getD 0 (.tuple #[]))) func121 kR kR kR kR;have h61:=@run_callFunc_extern prog 122 _ (ReflectliteValue.methodAny (ReflectliteValue.valueError "reflectlite.Value.Type" 0) (fun t _ _ _=>ReflectliteType.toType t)) func122 kR kR kR kR;have h62:=@run_callFunc_extern prog 123 _ (ReflectliteValue.method (ReflectliteValue.valueError "reflectlite.Value.IsNil" 0) ReflectliteValue.isNil) func123 kR kR kR kR;have h243:=@run_callFunc_extern prog 261 _ (ReflectliteType.abiMethod fun t=>do pure (.int .u8 (<-Rtype.kind t))) func261 kR kR kR kR;have h254:=@run_callFunc_extern prog 274 _ (ReflectliteType.method ReflectliteType.elem) func274 kR kR kR kR;have h255:=@run_callFunc_extern prog 275 _ (ReflectliteType.relation "Implements" ReflectliteType.implements_) func275 kR kR kR kR;have h58:=@run_callFunc_extern prog 119 _ ReflectliteType.typeOf func119 kR kR kR kR;have h252:=@run_callFunc_extern prog 272 _ (ReflectliteType.relation "AssignableTo" ReflectliteType.assignableTo) func272 kR kR kR kR;have h116:=@run_callFunc_extern prog 149 _ (ReflectliteValue.method (ReflectliteValue.valueError "reflectlite.Value.Elem" 0) ReflectliteValue.elem) func149 kR kR kR kR;have h117:=@run_callFunc_extern prog 150 _ ReflectliteValue.set func150 kR kR kR kR;have l1:=aR;have l2:=dG;have l3:=fD;have l4:=Uq;have l5:=YK;have l6:=eU;have l7:=cF;have l8:=cM;have l9:=cm;have l10:=Ze;have l11:=aS;have l12:=eV;have l13:=eY;have n1:No (qG #[pT (some ⟨18,143,none⟩),pT (w),.int .u64 150] 184):=⟨⟩;have n2:Nw ((w.alloc (qG #[pT (some t)] 143)).alloc n1):=⟨⟩;have n8:=cO ⟨w,0,none⟩ t n2 sI;have hlt:3<w.heap.size:=by
  rcases Nat.lt_or_ge 3 w with h|h
  ·exact h
  ·simp[xW,Array.getElem?_eq_none h]at hg
 have hg2:(n2:qM).cell? ⟨3,0,none⟩=some (.iface 209 (qY #[pT (some ⟨18,137,none⟩)])):=by
  rw[xX _ _ ⟨3,0,none⟩ sO,xX _ _ ⟨3,0,none⟩ hlt];exact hg
 have htl:t.block<w.heap.size:=by
  rcases Nat.lt_or_ge t.block w with h|h
  ·exact h
  ·simp[xW,Array.getElem?_eq_none h]at ht0
 have el:=bj ⟨w,0,none⟩ t ((n2:qM).alloc n1) (by rw[xX _ _ ⟨w,0,none⟩ sO];simp);have st:=fU t ⟨w.heap.size+1+1+1,0,none⟩ e old (((n2:qM).alloc n1).alloc (qG #[pT (some e)] 141))
  (by rw[World.cell?_alloc_at _ _ _ _ sI];rfl)
  (by rw[xX _ _ t sO,xX _ _ t sO,xX _ _ t sO,xX _ _ t htl];exact ht0)
  (by rw[xq _ _ t sO,xq _ _ t sO,xq _ _ t sO,xq _ _ t (Nat.ne_of_lt htl)];exact hf0)
 unfold dh;go_enter func81,ntmps81
 go_wp2;refine wp_loop_rounds 1 ?_;rw[rounds_succ];go_wp2;go_ret;exact⟨rfl,rfl⟩
open Go.Maps Go.BigFrame Go.Shelf
open Go.Value renaming slice→qV
open _root_.Option renaming some→jV
open _root_.Nat renaming lt_of_lt_of_le→qv
open Go.RowKit renaming Below→qN
def Zx(w:qM)(E:Nat->Addr):Prop:=(∀i,i<14->i≠3->i≠0->E i≠E 0)/\(∀i,i<14->i≠3->∃ca ta,w.heap[(E i).block]? =some (qG ca ta (0,0)))/\w.cell? ⟨3,0,none⟩=some (.iface 209 (.agg #[pT (some ⟨18,137,none⟩)]))/\17<w.heap.size
theorem Zx.below{w w':qM}{E:Nat->Addr}(h:Zx w E)(hb:qN w.heap.size w w'):Zx w' E:=by
 refine⟨h.1,fun i h1 h2=>?_,?_,qv h.2.2.2 hb.size⟩
 ·obtain⟨ca,ta,hc⟩:=h.2.1 i h1 h2;exact⟨ca,ta,(hb.block _ (Array.getElem?_eq_some_iff.1 hc).1).trans hc⟩
 ·exact(hb.cell (p:=⟨3,0,none⟩) (by have:=h.2.2.2;show 3<_;omega)).trans h.2.2.1
theorem ZU(e:Addr)(tb:Nat)(w:qM):w.grownBy (dh e ⟨tb,0,none⟩ w) (some tb):=by
 unfold dh;refine Au (FM ⟨rfl,rfl,rfl,Nat.le_refl _,fun _ _ _=>rfl⟩ ?_) _ _;exact(((Bg w _).alloc sI _).alloc sO _).alloc sO _
theorem eS{e:Addr}{tb:Nat}{w:qM}(h:Ag w tb (qG #[pT none] 141)):Ag (dh e ⟨tb,0,none⟩ w) tb (qG #[pT (some e)] 141):=by
 unfold dh;exact((((h.alloc _).alloc _).alloc _).alloc _).jB (i:=0) _
theorem Ag.c1{W:qM}{P t:Nat}{x:Value}(h:Ag W P (qG #[x] t)):W.cell? ⟨P,0,none⟩=some x:=by
 unfold Ag at h;simp[World.cell?,h]
def Ni(l l2:List Ae):Prop:=l2.length=l.length/\∀j,j<l.length->(Be l j).same (Be l2 j)
theorem Ni.refl(l:List Ae):Ni l l:=⟨rfl,fun _ _=>IW _⟩
def au(k:Av)(s:Aj)(w:qM)(e:Ending)(w':qM):Prop:=
 qN w.heap.size w w'/\∃(kv:Value) (c:Int) (tx:ByteArray),e= .returned (.tuple #[kv,.int .i64 c,.string tx])/\
 ((Bh k=false/\kv= .agg #[qV none 0 0,qV none 0 0]/\c=1/\tx=⟨#[]⟩)∨
  (Bh k=true/\∃(lt:List Ae) (lo:List Ab) (lt' lt2:List Ae) (lo' lo2:List Ab) (ta oa:Option Addr) (ca co:Nat),k.same (Df none 0 none 0 lt lo)/\kv= .agg #[qV ta lt'.length ca,qV oa lo'.length co]/\Ho w' w.heap.size (qV ta lt'.length ca) (qV oa lo'.length co) lt' lo'/\Apart lt' lo'/\Ni lt' lt2/\Jm lo' lo2/\Ji lt lo s c tx lt2 lo2))
theorem IY(tmps:Array Value)(W:qM)(P:Nat)(x y v5 v6:Value)(h:Ag W P (qG #[x,y] 27))(h4:tmps[4]? =some (pT P))(h5:tmps[5]? =some v5)(h6:tmps[6]? =some v6):
 (results Tryz.f37 tmps).run prog W= .ok (.tuple #[.agg #[x,y],v5,v6]) W:=by
 obtain⟨z0,z1⟩:=h.two;simp[results,Tryz.results37,go_sem,h4,h5,h6,z0,z1]
theorem cL{k:Av}{lt lt2:List Ae}{lo lo2:List Ab}{ta oa:Option Addr}{ca co:Nat}(h:k.same (Df ta ca oa co lt lo))(h2:k.same (Df none 0 none 0 lt2 lo2)):Ni lt lt2/\Jm lo lo2:=by
 refine⟨⟨h2.1.trans h.1.symm,fun j hj=>?_⟩,h2.2.2.1.trans h.2.2.1.symm,fun j hj=>?_⟩
 ·have hj':j<k.tn:=by have e:lt.length=k.tn:=h.1;omega
  have a:(k.T j).same (Be lt j):=h.2.1 j hj';have b:(k.T j).same (Be lt2 j):=h2.2.1 j hj';obtain⟨a1,a2,a3,a4,a5,a6,a7⟩:=a;obtain⟨b1,b2,b3,b4,b5,b6,b7⟩:=b;exact⟨b1.trans a1.symm,b2.trans a2.symm,⟨b3.1.trans a3.1.symm,b3.2.1.trans a3.2.1.symm,b3.2.2.trans a3.2.2.symm⟩,b4.trans a4.symm,⟨b5.1.trans a5.1.symm,b5.2.1.trans a5.2.1.symm,b5.2.2.trans a5.2.2.symm⟩,⟨b6.1.trans a6.1.symm,b6.2.trans a6.2.symm⟩,b7.trans a7.symm⟩
 ·have hj':j<k.on:=by have e:lo.length=k.on:=h.2.2.1;omega
  have a:(k.O j).same (Aa lo j):=h.2.2.2 j hj';have b:(k.O j).same (Aa lo2 j):=h2.2.2.2 j hj';obtain⟨a1,a2,a3,a4,a5,a6,a7,a8,a9,a10⟩:=a;obtain⟨b1,b2,b3,b4,b5,b6,b7,b8,b9,b10⟩:=b;exact⟨b1.trans a1.symm,b2.trans a2.symm,b3.trans a3.symm,b4.trans a4.symm,⟨b5.1.trans a5.1.symm,b5.2.1.trans a5.2.1.symm,b5.2.2.trans a5.2.2.symm⟩,b6.trans a6.symm,⟨b7.1.trans a7.1.symm,b7.2.trans a7.2.symm⟩,⟨b8.1.trans a8.1.symm,b8.2.trans a8.2.symm⟩,b9.trans a9.symm,⟨b10.1.trans a10.1.symm,b10.2.1.trans a10.2.1.symm,b10.2.2.trans a10.2.2.symm⟩⟩
theorem Lz(E:Nat->Addr)(k:Av)(s:Aj)(hr:Zk E s)(w:qM)(hk:k.at w)(hs:s.at w)(hcap:k.on<=k.ok)(hw:∀i,i<k.on->(Lit.int .i64 (k.O i).id).wf=true/\(Lit.int .i64 (k.O i).up).wf=true)(he:LY w E)(hE:Zx w E)(tab:Td w):
 Calls prog 37 #[.agg #[qV k.ta k.tn k.tk,qV k.oa k.on k.ok],.agg s] w fun e w'=>au k s w e w':=by
 have n10:No (qG s 50):=⟨⟩;have n13:No (qG #[qV k.ta k.tn k.tk,qV k.oa k.on k.ok] 27):=⟨⟩;have n9:Nw ((w.alloc n13).alloc n10):=⟨⟩;have n11:No (qG #[qV none 0 0,qV none 0 0] 27):=⟨⟩;have b0:qN w.heap.size w ((n9:qM).alloc n11):=((Bg w _).alloc sI _).alloc sO _;have f0:Ag ((n9:qM).alloc n11) w.heap.size n13:=((Ag.new w _).alloc _).alloc _;have f1:Ag ((n9:qM).alloc n11) (w.heap.size+1) n10:=by
  have h:=(Ag.new (w.alloc n13) n10).alloc n11;rw[show(w.alloc n13).heap.size=w.heap.size+1 from by simp]at h;exact h
 have f2:Ag ((n9:qM).alloc n11) (w.heap.size+2) n11:=by
  have h:=Ag.new n9 n11;rw[show(n9:qM).heap.size=w.heap.size+2 from by simp]at h;exact h
 have h19:=hE.2.2.2;have h14:14<=w.heap.size:=by omega
 have DN:=qC (aJ E k s hr ((n9:qM).alloc n11) (hk.below b0) (hs.below b0) hcap hw (he.below h14 b0) (by have:=b0.size;omega) (tab.below b0));have B0:=qC b0;have F0:=qC f0;have F2:=qC f2;have HK:=qC hk;have HE:=qC he;have HB:=qC hE;obtain⟨x0,x1⟩:=f0.two;obtain⟨y0,y1,y2,y3,y4,y5,y6,y7,y8,y9⟩:=f1.jE;clear b0 f0 f1 f2 hk hs he hE tab hr;go_enter func37,ntmps37
 go_wp2_with fail
 clear x0 x1 y0 y1 y2 y3 y4 y5 y6 y7 y8 y9;generalize ((n9:qM).alloc n11)=w0 at *;refine DN.out.mono ?_;rintro e w1 ⟨kv,tx,v,rfl,b1,⟨ga,qa,n1,n2,c1,c2,rfl⟩,hh⟩;have n12:No (qG #[qV ga n1 c1,qV qa n2 c2] 27):=⟨⟩;have b2:=(Below.refl _ w1).alloc nr n12;have AA:=qC (Af B0.out b1);have A2:=qC (Af AA.out b2);have G0:=qC ((F0.out.below b1).below b2);have G2:=qC ((F2.out.below b1).below b2);have G7:=qC (Ag.new w1 n12);have BB:=qC b2;have z1:w.heap.size+2<w1.heap.size:=(F2.out.below b1).lt;have e0:=(HE.out.below h14 A2.out 0 qQ qQ).1;have s0:w.heap.size+2<w0.heap.size:=F2.out.lt;have HH:=qC hh;clear b1 b2 F0 F2 DN hh;rcases HH.out with⟨nk,r,rfl,br⟩|⟨ok,c,lt,lo,told,hc,sm,dp⟩|⟨ok,rfl,lt,lo,lt',lo',lo2,g,ca,q,co,sm,ekv,ks,ap,so,dp⟩
 ·have IS:=qC (eD r 1 (E 0) (w1.alloc n12) (br.below BB.out));have NK:=qC nk;clear nk br HH;go_wp2_with fail
  generalize w1.alloc n12=w2 at *;refine IS.out.mono ?_;rintro e w3 ⟨rfl,hw3⟩;have hw4:=hw3.symm;subst hw4;clear hw3 IS;obtain⟨r0,r1⟩:=G2.out.two;have rf:=G2.out.jC;go_wp2;have gq:=Ij w2 (w.heap.size+2) (qV none 0 0) (qV none 0 0);have bb:qN w.heap.size w ((w2.setCell ⟨w.heap.size+2,0,none⟩ (qV none 0 0)).setCell ⟨w.heap.size+2,1,none⟩ (qV none 0 0)):=A2.out.trans (below_grown gq A2.out.size (fun j e=>by have:=jV.inj e;omega));exact bodyPost_ret (IY _ _ (w.heap.size+2) (qV none 0 0) (qV none 0 0) _ _ ((G2.out.jB (i:=0) _).jB (i:=1) _) rfl rfl rfl) rfl ⟨bb,_,_,_,rfl,.inl ⟨NK.out,rfl,rfl,rfl⟩⟩
 ·rcases told with⟨h0,_⟩|⟨_,r,i,rfl,br,i0,i14,i3,rl⟩
  ·exact absurd h0 hc
  have br2:=br.below BB.out;obtain⟨ca0,ta0,hca⟩:=(HB.out.below A2.out).2.1 i i14 i3;obtain⟨cb0,tb0,hcb⟩:=(HB.out.below A2.out).2.1 0 qQ qQ;have IS:=qC (dZ r c (E i) (E 0) ca0 cb0 ta0 tb0 (w1.alloc n12) br2 (HB.out.1 i i14 i3 i0) hca hcb);have BR:=qC br2;have SM:=qC sm;have DP:=qC dp;have OK:=qC ok;have HB2:=qC (HB.out.below A2.out);have w1l:w1.heap.size<(w1.alloc n12).heap.size:=by simp
  have rlt:r<w1.heap.size:=br.lt;clear hca hcb br br2 sm dp ok HH;go_wp2_with fail
  generalize w1.alloc n12=w2 at *;refine IS.out.mono ?_;rintro e w3 ⟨rfl,hw3⟩;have hw4:=hw3.symm;subst hw4;clear hw3 IS;have n14:No (qG #[pT none] 141):=⟨⟩;have b3:=(Below.refl _ w2).alloc nr n14;have t3:=Ag.new w2 n14;have tc:(w2.alloc n14).cell? ⟨w2.heap.size,0,none⟩=some (pT none):=t3.c1;have AS:=qC (dJ ⟨r,0,none⟩ ⟨w2.heap.size,0,none⟩ (pT none) (w2.alloc n14) (HB2.out.below b3).2.2.1 tc (t3.jC _));have gr:=ZU ⟨r,0,none⟩ w2.heap.size (w2.alloc n14);have gw:w2.grownBy (dh ⟨r,0,none⟩ ⟨w2.heap.size,0,none⟩ (w2.alloc n14)) none:=⟨gr.os,gr.tape,gr.output,Nat.le_trans b3.size gr.size,fun j hj _=>(gr.block j (qv hj b3.size) (fun e=>by have:=jV.inj e;omega)).trans (b3.block j hj)⟩;have bA:qN w2.heap.size w2 (dh ⟨r,0,none⟩ ⟨w2.heap.size,0,none⟩ (w2.alloc n14)):=below_grown gw nr (fun j e=>by cases e);have TT:=qC (eS (e:=⟨r,0,none⟩) t3);have A4:=qC (Af A2.out bA);have H0:=qC (G0.out.below bA);have H2:=qC (G2.out.below bA);have R4:=qC (BR.out.below bA);clear b3 t3 tc gr gw bA;go_wp2_with fail
  refine AS.out.mono ?_;rintro e w4 ⟨rfl,hw4⟩;rw[<-hw4]at TT A4 H0 H2 R4;clear hw4 AS;have EK:Hid (∀args w,(callFunc 14 args).run prog w= .ok (.enter 14 args) w):=qC (enters_of func14 kR rfl);have PK:Hid (Calls prog 14 #[.agg #[qV k.ta k.tn k.tk,qV k.oa k.on k.ok]] w4.drew fun e w'=>∃v,e= .returned v/\∃(lt:List Ae) (lo:List Ab) (ta oa:Option Addr) (ca co:Nat),v= .agg #[qV ta lt.length ca,qV oa lo.length co]/\Bz w' w4.heap.size (qV ta lt.length ca) (qV oa lo.length co) lt lo/\Apart lt lo/\k.same (Df ta ca oa co lt lo)/\qN w4.heap.size w4.drew w'):=qC ((Gx k w4.drew ((HK.out.below A4.out).below (Below.refl _ w4).drew) (Iw OK.out)).mono fun e w' hh=>by
   obtain⟨lt,lo,ta,oa,ca,co,rfl,h1,h2,_,h4,h5⟩:=hh;exact⟨_,rfl,lt,lo,ta,oa,ca,co,rfl,h1,h2,h4,h5⟩)
  go_upto_region 6 with fail
  obtain⟨x0,x1⟩:=(show Ag w4.drew w.heap.size _ from H0.out).two;obtain⟨r0,r1⟩:=(show Ag w4.drew (w.heap.size+2) _ from H2.out).two;have rf:=(show Ag w4.drew (w.heap.size+2) _ from H2.out).jC;have t0:w4.drew.cell? ⟨w2.heap.size,0,none⟩=some (pT r):=Ag.c1 (show Ag w4.drew w2.heap.size _ from TT.out);obtain⟨q0,q1⟩:=(show Ag w4.drew r _ from R4.out).two;have n1:¬r=w.heap.size+1+1:=by omega
  have n2:¬w.heap.size+1+1=r:=by omega
  have n3:¬r=w.heap.size+2:=by omega
  have n4:¬w.heap.size+2=r:=by omega
  have n5:¬w2.heap.size=w.heap.size+1+1:=by omega
  have n6:¬w.heap.size+1+1=w2.heap.size:=by omega
  have n7:¬w2.heap.size=w.heap.size+2:=by omega
  have n8:¬w.heap.size+2=w2.heap.size:=by omega
  go_region_law(refine EJ qK 14 _ _ qK EK.out _ qK _ PK.out ?_;rintro v w5 ⟨lt5,lo5,ta,oa,ca,co,rfl,ks,ap,sm,b5⟩;have b5':qN w4.heap.size w4 w5:=Af (Below.refl w4.heap.size w4).drew b5;have K5:=qC ks;have AP5:=qC ap;have SM5:=qC sm;have A5:=qC (Af A4.out b5');have J2:=qC (H2.out.below b5');have JT:=qC (TT.out.below b5');have JR:=qC (R4.out.below b5');obtain⟨u0,u1⟩:=J2.out.two;have uf:=J2.out.jC;have v0:w5.cell? ⟨w2.heap.size,0,none⟩=some (pT r):=JT.out.c1;obtain⟨m0,m1⟩:=JR.out.two;clear ks ap sm b5 b5')
  all_goals(
   go_wp2;have n17:Nv (qV ta lt5.length ca):=⟨⟩;have n18:Nv (qV oa lo5.length co):=⟨⟩;have gq:=Ij w5 (w.heap.size+2) n17 n18;have bb:qN w.heap.size w ((w5.setCell ⟨w.heap.size+2,0,none⟩ n17).setCell ⟨w.heap.size+2,1,none⟩ n18):=A5.out.trans (below_grown gq A5.out.size (fun j e=>by have:=jV.inj e;omega));have tw:=cL SM5.out SM.out;have w4l:w.heap.size+2<w4.heap.size:=H2.out.lt;exact bodyPost_ret (IY _ _ (w.heap.size+2) n17 n18 _ _ ((J2.out.jB (i:=0) _).jB (i:=1) _) rfl rfl rfl) rfl ⟨bb,_,_,_,rfl,.inr ⟨OK.out,lt,lo,lt5,lt,lo5,lo,ta,oa,ca,co,SM.out,rfl,(K5.out.f.past gq qQ).base qQ,AP5.out,tw.1,tw.2,DP.out⟩⟩)
 ·have OK:=qC ok;have SM:=qC sm;have KS:=qC (ks.below BB.out);have AP:=qC ap;have SO:=qC so;have DP:=qC dp;have EKV:=qC ekv;clear ekv;have n16:No (qG #[qV ga n1 c1,qV qa n2 c2] 27):=⟨⟩;have IS:=qC (cN 314 (pT (some (E 0))) (w1.alloc n16));clear ok sm ks ap so dp HH;go_wp2_with fail
  generalize w1.alloc n16=w2 at *;refine IS.out.mono ?_;rintro e w3 ⟨rfl,hw3⟩;have hw4:=hw3.symm;subst hw4;clear hw3 IS;have n15:No (qG #[pT none] 141):=⟨⟩;have b3:=(Below.refl _ w2).alloc nr n15;have A4:=qC (Af A2.out b3);have H2:=qC (G2.out.below b3);have H7:=qC (G7.out.below b3);have K4:=qC (KS.out.below b3);have AS:=qC (bK (.iface 143 (pT (w2.heap.size))) (w2.alloc n15));clear b3;go_wp2_with fail
  generalize w2.alloc n15=w4 at *;refine AS.out.mono ?_;rintro e w5 ⟨rfl,hw5⟩;have hw6:=hw5.symm;subst hw6;clear hw5 AS;obtain⟨r0,r1⟩:=H2.out.two;have rf:=H2.out.jC;obtain⟨x0,x1⟩:=H7.out.two;go_wp2;have gq:=Ij w4 (w.heap.size+2) (qV ga n1 c1) (qV qa n2 c2);have bb:qN w.heap.size w ((w4.setCell ⟨w.heap.size+2,0,none⟩ (qV ga n1 c1)).setCell ⟨w.heap.size+2,1,none⟩ (qV qa n2 c2)):=A4.out.trans (below_grown gq A4.out.size (fun j e=>by have:=jV.inj e;omega));have KF:=(K4.out.past gq s0).base (show w.heap.size<=w0.heap.size by omega);refine bodyPost_ret (IY _ _ (w.heap.size+2) (qV ga n1 c1) (qV qa n2 c2) _ _ ((H2.out.jB (i:=0) _).jB (i:=1) _) rfl rfl rfl) rfl ⟨bb,_,_,_,rfl,.inr ⟨OK.out,lt,lo,lt',lt',lo',lo2,some ⟨g,0,none⟩,some ⟨q,0,none⟩,ca,co,SM.out,?_,KF,AP.out,Ni.refl _,SO.out,DP.out⟩⟩;exact EKV.out
open _root_.List renaming map_set→ky,length_map→kX,getD_eq_getElem?_getD→jN,getElem?_map→zH
variable {X:Ae}{s:Aj}{lt lt':List Ae}{lo lo':List Ab}{t u:Nat}{c:Int}{tx:ByteArray}
def As.nm(c:As):As:=⟨none,c.n,0,c.f,c.g⟩
def AJ.nm(c:AJ):AJ:=⟨none,c.n,0,c.h⟩
def AE.nm(c:AE):AE:=⟨none,c.n,0,c.f⟩
def Ae.nm(x:Ae):Ae:=⟨x.id,x.b1,x.c1.nm,x.b2,x.c2.nm,x.own.nm,x.made⟩
def Ab.nm(x:Ab):Ab:=⟨x.id,x.kind,x.up,x.b1,x.c1.nm,x.data,x.jA.nm,x.own.nm,x.b2,x.c2.nm⟩
def As.eqv(c d:As):Prop:=d.n=c.n/\∀i,i<c.n->d.f i=c.f i/\d.g i=c.g i
def AJ.eqv(c d:AJ):Prop:=d.n=c.n/\∀i,i<c.n->d.h i=c.h i
def AE.eqv(c d:AE):Prop:=d.n=c.n/\∀i,i<c.n->d.f i=c.f i
def Ae.eqv(x y:Ae):Prop:=y.id=x.id/\y.b1=x.b1/\x.c1.eqv y.c1/\y.b2=x.b2/\x.c2.eqv y.c2/\x.own.eqv y.own/\y.made=x.made
def Ab.eqv(x y:Ab):Prop:=y.id=x.id/\y.kind=x.kind/\y.up=x.up/\y.b1=x.b1/\x.c1.eqv y.c1/\y.data=x.data/\x.jA.eqv y.jA/\x.own.eqv y.own/\y.b2=x.b2/\x.c2.eqv y.c2
theorem Ae.eqv.refl(x:Ae):x.eqv x:=⟨rfl,rfl,⟨rfl,fun _ _=>⟨rfl,rfl⟩⟩,rfl,⟨rfl,fun _ _=>⟨rfl,rfl⟩⟩,⟨rfl,fun _ _=>rfl⟩,rfl⟩
theorem Ab.eqv.refl(x:Ab):x.eqv x:=⟨rfl,rfl,rfl,rfl,⟨rfl,fun _ _=>⟨rfl,rfl⟩⟩,rfl,⟨rfl,fun _ _=>rfl⟩,⟨rfl,fun _ _=>rfl⟩,rfl,⟨rfl,fun _ _=>⟨rfl,rfl⟩⟩⟩
def Q6(l m:List Ae):Prop:=m.length=l.length/\∀j,j<l.length->(Be l j).eqv (Be m j)
def QI(l m:List Ab):Prop:=m.length=l.length/\∀j,j<l.length->(Aa l j).eqv (Aa m j)
theorem Q6.refl(l:List Ae):Q6 l l:=⟨rfl,fun _ _=> .refl _⟩
theorem QI.refl(l:List Ab):QI l l:=⟨rfl,fun _ _=> .refl _⟩
theorem I4(lo:List Ab)(i:Nat):Aa (lo.map Ab.nm) i=(Aa lo i).nm:=by
 unfold Aa;rw[jN,jN,zH];cases lo[i]?<;>rfl
theorem dL(lt:List Ae)(i:Nat):Be (lt.map Ae.nm) i=(Be lt i).nm:=by
 unfold Be;rw[jN,jN,zH];cases lt[i]?<;>rfl
theorem Nb(lo:List Ab)(x:Int):Hq (lo.map Ab.nm) x=Hq lo x:=by
 unfold Hq;rw[kX];congr 1;funext i;rw[I4];rfl
theorem dx(lt:List Ae)(x:Int):Us (lt.map Ae.nm) x=Us lt x:=by
 unfold Us;rw[kX];congr 1;funext i;rw[dL];rfl
theorem CI(X:Ae)(lo:List Ab)(x k:Int):BF X.nm (lo.map Ab.nm) x k=BF X lo x k:=by
 unfold BF;rw[Nb];cases Hq lo x with
 |none=>rfl
 |some u=>simp only;rw[I4];rfl
theorem dt(o:Ab):∀lo:List Ab,(Bs o lo).map Ab.nm=Bs o.nm (lo.map Ab.nm)
 |[]=>rfl
 |x::r=>by
  have ih:=dt o r;by_cases h:o.id<x.id
  ·have a:Bs o (x::r)=o::x::r:=(by simp[Bs,h]);have b:Bs o.nm ((x::r).map Ab.nm)=o.nm::x.nm::r.map Ab.nm:=by
    show(if o.nm.id<x.nm.id then _ else _)=_;rw[if_pos (show o.nm.id<x.nm.id from h)]
   rw[a,b];rfl
  ·have a:Bs o (x::r)=x::Bs o r:=(by simp[Bs,h]);have b:Bs o.nm ((x::r).map Ab.nm)=x.nm::Bs o.nm (r.map Ab.nm):=by
    show(if o.nm.id<x.nm.id then _ else _)=_;rw[if_neg (show ¬o.nm.id<x.nm.id from h)]
   rw[a,b,<-ih];rfl
theorem dD(lo:List Ab)(u:Nat):Ci (lo.map Ab.nm) u=Ci lo u:=by
 unfold Ci;have e1:(fun i=>(Aa (lo.map Ab.nm) i).id)=fun i=>(Aa lo i).id:=by funext i;rw[I4];rfl
 have e2:(fun i=>(Aa (lo.map Ab.nm) i).up)=fun i=>(Aa lo i).up:=by funext i;rw[I4];rfl
 rw[e1,e2,kX]
theorem eQ(G:List Int)(lo:List Ab)(j:Nat):(Fa G lo j).map Ab.nm=Fa G (lo.map Ab.nm) j:=by
 unfold Fa;rw[<-List.map_take,List.filter_map];rfl
theorem fI(lo:List Ab)(x:Int)(n:Nat):Kt (Aa (lo.map Ab.nm)) x n=Kt (Aa lo) x n:=by
 unfold Kt;have e1:(fun i=>(Aa (lo.map Ab.nm) i).id)=fun i=>(Aa lo i).id:=by funext i;rw[I4];rfl
 have e2:(fun j=>(Aa (lo.map Ab.nm) j).up==x)=fun j=>(Aa lo j).up==x:=by funext i;rw[I4];rfl
 rw[e1,e2]
theorem VN(X:Ae)(s:Aj)(lo:List Ab):Gg X.nm s (lo.map Ab.nm)=Gg X s lo:=by
 unfold Gg;rw[Nb];cases Hq lo s.id with
 |none=>rfl
 |some u=>simp only;rw[I4];rfl
theorem ZM(X:Ae)(lo:List Ab)(x:Int):Hj X.nm (lo.map Ab.nm) x=Hj X lo x:=by
 unfold Hj;rw[Nb];cases Hq lo x with
 |none=>rfl
 |some u=>
  simp only;rw[I4];show(decide (0<u)&&match Hq (lo.map Ab.nm) (Aa lo u).up with|some p=>_|none=>false)=_;rw[Nb];cases Hq lo (Aa lo u).up with
  |none=>rfl
  |some p=>simp only;rw[I4];rfl
theorem dj(h:GC X s lt lo t c tx lt' lo'):GC X.nm s (lt.map Ae.nm) (lo.map Ab.nm) t c tx (lt'.map Ae.nm) (lo'.map Ab.nm):=by
 cases h with
 |k1 h x e1 e2 p=>
  refine .k1 h x.nm (by rw[e1,ky]) (by rw[e2]) ?_;rcases p with⟨a,b,rfl,d⟩|⟨a,b,d,a1,cc,rfl⟩
  ·exact .inl ⟨a,b,rfl,d⟩
  ·exact .inr ⟨a,b,d,none,0,rfl⟩
 |k12 h x e1 e2 e3 p=>
  refine .k12 h x.nm (by rw[e1,ky]) (by rw[e2]) e3 ?_;rcases p with⟨a,b,rfl⟩|⟨a,b,d,e,rfl⟩
  ·exact .inl ⟨a,b,rfl⟩
  ·exact .inr ⟨a,b,d.nm,e,rfl⟩
 |k14 h x e1 e2 e3 p=>
  refine .k14 h x.nm (by rw[e1,ky]) (by rw[e2]) e3 ?_;rcases p with⟨a,b,rfl⟩|⟨a,b,a1,cc,rfl⟩
  ·exact .inl ⟨a,b,rfl⟩
  ·exact .inr ⟨a,b,none,0,rfl⟩
 |make h p=>
  refine .make h ?_;rcases p with⟨a,b,d,rfl,rfl⟩|⟨a,b,d,e,rfl,rfl⟩|⟨a,b,d,e,rfl,d1,d2,ow,s1,s2,s3,rfl⟩
  ·exact .inl ⟨a,by rw[VN];exact b,d,rfl,rfl⟩
  ·exact .inr (.inl ⟨a,by rw[VN];exact b,d,e,rfl,rfl⟩)
  ·refine .inr (.inr ⟨a,by rw[VN];exact b,d,e,by rw[ky];rfl,d1.nm,d2.nm,ow.nm,s1,?_,?_,by rw[dt];rfl⟩)
   ·by_cases h5:s.kind=5
    ·rw[if_pos h5]at s2 ⊢;exact s2
    ·rw[if_neg h5]at s2 ⊢;rw[s2];rfl
   ·by_cases h5:0<s.cat
    ·rw[if_pos h5]at s3 ⊢;exact s3
    ·rw[if_neg h5]at s3 ⊢;rw[s3];rfl
 |drop h e1 e3 p=>
  refine .drop h (by rw[e1]) e3 ?_;rcases p with⟨a,b,rfl⟩|⟨a,b,u,d,e,rfl⟩
  ·exact .inl ⟨a,by rw[ZM];exact b,rfl⟩
  ·exact .inr ⟨a,by rw[ZM];exact b,u,by rw[Nb];exact d,e,by rw[eQ,dD,kX]⟩
 |k6 h p=>
  refine .k6 h ?_;rcases p with⟨a,b,d,rfl,rfl⟩|⟨u,a,⟨b,d,e,rfl,rfl⟩|⟨b,d,e,rfl,rfl⟩⟩
  ·exact .inl ⟨by rw[CI];exact a,b,d,rfl,rfl⟩
  ·exact .inr ⟨u,by rw[CI];exact a,.inl ⟨by rw[I4];exact b,d,e,rfl,rfl⟩⟩
  ·exact .inr ⟨u,by rw[CI];exact a,.inr ⟨by rw[I4];exact b,d,e,rfl,by rw[ky,I4];rfl⟩⟩
 |k7 h p=>
  refine .k7 h ?_;rcases p with⟨a,b,d,rfl,rfl⟩|⟨u,a,b,d,rfl,rfl⟩
  ·exact .inl ⟨by rw[CI];exact a,b,d,rfl,rfl⟩
  ·exact .inr ⟨u,by rw[CI];exact a,b,by rw[I4];exact d,rfl,rfl⟩
 |k8 h p=>
  refine .k8 h ?_;rcases p with⟨a,b,d,rfl,rfl⟩|⟨u,a,⟨b,d,e,rfl,rfl⟩|⟨p,b,⟨d,e,f,rfl,rfl⟩|⟨d,e,f,g,rfl,rfl⟩⟩⟩
  ·exact .inl ⟨by rw[CI];exact a,b,d,rfl,rfl⟩
  ·exact .inr ⟨u,by rw[CI];exact a,.inl ⟨by rw[Nb];exact b,d,e,rfl,rfl⟩⟩
  ·exact .inr ⟨u,by rw[CI];exact a,.inr ⟨p,by rw[Nb];exact b,.inl ⟨by rw[I4];exact d,e,f,rfl,rfl⟩⟩⟩
  ·exact .inr ⟨u,by rw[CI];exact a,.inr ⟨p,by rw[Nb];exact b,.inr ⟨by rw[I4];exact d,by rw[I4];exact e,f,g,rfl,by rw[ky,I4,I4];rfl⟩⟩⟩
 |k9 h p=>
  refine .k9 h ?_;rcases p with⟨a,b,d,rfl,rfl⟩|⟨u,a,⟨b,d,e,rfl,rfl⟩|⟨b,d,e,f,rfl,rfl⟩|⟨b,d,e,f,rfl,a1,c1,rfl⟩⟩
  ·exact .inl ⟨by rw[CI];exact a,b,d,rfl,rfl⟩
  ·exact .inr ⟨u,by rw[CI];exact a,.inl ⟨by rw[I4];exact b,d,e,rfl,rfl⟩⟩
  ·exact .inr ⟨u,by rw[CI];exact a,.inr (.inl ⟨by rw[I4];exact b,by rw[I4];exact d,e,f,rfl,rfl⟩)⟩
  ·exact .inr ⟨u,by rw[CI];exact a,.inr (.inr ⟨by rw[I4];exact b,by rw[I4];exact d,e,f,rfl,none,0,by rw[ky,I4];rfl⟩)⟩
 |k10 h p=>
  refine .k10 h ?_;rcases p with⟨a,b,d,rfl,rfl⟩|⟨u,a,⟨b,d,e,rfl,rfl⟩|⟨b,d,e,f,rfl,rfl⟩|⟨b,d,e,f,rfl,a1,c1,rfl⟩⟩
  ·exact .inl ⟨by rw[CI];exact a,b,d,rfl,rfl⟩
  ·exact .inr ⟨u,by rw[CI];exact a,.inl ⟨by rw[I4];exact b,d,e,rfl,rfl⟩⟩
  ·exact .inr ⟨u,by rw[CI];exact a,.inr (.inl ⟨by rw[I4];exact b,by rw[I4];exact d,e,f,rfl,rfl⟩)⟩
  ·exact .inr ⟨u,by rw[CI];exact a,.inr (.inr ⟨by rw[I4];exact b,by rw[I4];exact d,e,by rw[I4];exact f,rfl,none,0,by rw[ky,I4];rfl⟩)⟩
 |k13 h p=>
  refine .k13 h ?_;rcases p with⟨a,b,d,rfl,rfl⟩|⟨u,a,⟨b,d,e,rfl,rfl⟩|⟨b,d,e,f,rfl,rfl⟩|⟨b,d,e,f,a1,c1,rfl,rfl⟩⟩
  ·exact .inl ⟨by rw[CI];exact a,b,d,rfl,rfl⟩
  ·exact .inr ⟨u,by rw[CI];exact a,.inl ⟨by rw[I4];exact b,d,e,rfl,rfl⟩⟩
  ·exact .inr ⟨u,by rw[CI];exact a,.inr (.inl ⟨by rw[I4];exact b,by rw[I4];exact d,e,f,rfl,rfl⟩)⟩
  ·exact .inr ⟨u,by rw[CI];exact a,.inr (.inr ⟨by rw[I4];exact b,by rw[I4];exact d,e,f,none,0,by rw[ky,I4];rfl,rfl⟩)⟩
 |k15 h p=>
  refine .k15 h ?_;rcases p with⟨a,b,d,rfl,rfl⟩|⟨u,a,b,d,rfl,rfl⟩
  ·exact .inl ⟨by rw[CI];exact a,b,d,rfl,rfl⟩
  ·exact .inr ⟨u,by rw[CI];exact a,b,by rw[fI,kX];exact d,rfl,rfl⟩
theorem az{l:List Ab}{x y:Ab}(h:x.eqv y):QI (l.set u x) (l.set u y):=by
 refine⟨by simp,fun j hj=>?_⟩;have hj':j<l.length:=by simpa using hj
 unfold Aa;by_cases e:j=u
 ·subst e;simp[hj'];exact h
 ·have:u≠j:=fun h=>e h.symm;simp[this];exact .refl _
theorem N9{l:List Ae}{x y:Ae}(h:x.eqv y):Q6 (l.set u x) (l.set u y):=by
 refine⟨by simp,fun j hj=>?_⟩;have hj':j<l.length:=by simpa using hj
 unfold Be;by_cases e:j=u
 ·subst e;simp[hj'];exact h
 ·have:u≠j:=fun h=>e h.symm;simp[this];exact .refl _
theorem WY{o o2:Ab}(h:o.eqv o2):∀lo,QI (Bs o lo) (Bs o2 lo)
 |[]=>⟨rfl,fun j hj=>by
  have e:j=0:=by simp[Bs]at hj;omega
  subst e;exact h⟩
 |x::r=>by
  have ih:=WY h r;have e:o2.id=o.id:=h.1;by_cases hx:o.id<x.id
  ·have a:Bs o (x::r)=o::x::r:=(by simp[Bs,hx]);have b:Bs o2 (x::r)=o2::x::r:=(by simp[Bs,e,hx]);rw[a,b];refine⟨rfl,fun j hj=>?_⟩;cases j with
   |zero=>exact h
   |succ j=>exact .refl _
  ·have a:Bs o (x::r)=x::Bs o r:=(by simp[Bs,hx]);have b:Bs o2 (x::r)=x::Bs o2 r:=(by simp[Bs,e,hx]);rw[a,b];refine⟨by simp[ih.1],fun j hj=>?_⟩;cases j with
   |zero=>exact .refl _
   |succ j=>exact ih.2 j (by simpa using hj)
def WW(c c2:Int)(tx tx2:ByteArray)(lt lt2:List Ae)(lo lo2:List Ab):Prop:=c2=c/\tx2=tx/\Q6 lt lt2/\QI lo lo2
theorem Bn:WW c c tx tx lt lt lo lo:=⟨rfl,rfl,.refl _,.refl _⟩
theorem As.eqv.of_same{c d e:As}(h:c.same d)(h2:c.same e):d.eqv e:=⟨h2.1.trans h.1.symm,fun _ _=>⟨by rw[h2.2.1,h.2.1],by rw[h2.2.2,h.2.2]⟩⟩
theorem YB{c2:Int}{tx2:ByteArray}{lt2:List Ae}{lo2:List Ab}(h:GC X s lt lo t c tx lt' lo')(h2:GC X s lt lo t c2 tx2 lt2 lo2):WW c c2 tx tx2 lt' lt2 lo' lo2:=by
 cases h with
 |k1 h x e1 e2 p=>
  cases h2;all_goals try(exfalso;omega)
  rename_i h' x2 f1 f2 p2;subst e1 e2 f1 f2;rcases p with⟨rfl,a,rfl,rfl⟩|⟨rfl,a,rfl,a1,c1,rfl⟩<;>rcases p2 with⟨rfl,b,rfl,rfl⟩|⟨rfl,b,rfl,a2,cc2,rfl⟩
  ·exact Bn
  ·exact absurd a b
  ·exact absurd b a
  ·exact⟨rfl,rfl,N9 (.refl _),.refl _⟩
 |k12 h x e1 e2 e3 p=>
  cases h2;all_goals try(exfalso;omega)
  rename_i h' x2 f1 f2 f3 p2;subst e1 e2 f1 f2 e3 f3;rcases p with⟨rfl,a,rfl⟩|⟨rfl,a,d,sd,rfl⟩<;>rcases p2 with⟨rfl,b,rfl⟩|⟨rfl,b,d2,sd2,rfl⟩
  ·exact Bn
  ·rw[a]at b;cases b
  ·rw[a]at b;cases b
  ·exact⟨rfl,rfl,N9 ⟨rfl,rfl,.of_same sd sd2,rfl,⟨rfl,fun _ _=>⟨rfl,rfl⟩⟩,⟨rfl,fun _ _=>rfl⟩,rfl⟩,.refl _⟩
 |k14 h x e1 e2 e3 p=>
  cases h2;all_goals try(exfalso;omega)
  rename_i h' x2 f1 f2 f3 p2;subst e1 e2 f1 f2 e3 f3;rcases p with⟨rfl,a,rfl⟩|⟨rfl,a,a1,c1,rfl⟩<;>rcases p2 with⟨rfl,b,rfl⟩|⟨rfl,b,a2,cc2,rfl⟩
  ·exact Bn
  ·rw[a]at b;cases b
  ·rw[a]at b;cases b
  ·exact⟨rfl,rfl,N9 (.refl _),.refl _⟩
 |make h p=>
  cases h2;all_goals try(exfalso;omega)
  rename_i h' p2;rcases p with⟨rfl,a,rfl,rfl,rfl⟩|⟨rfl,a,a',rfl,rfl,rfl⟩|⟨rfl,a,a',rfl,rfl,d1,d2,ow,s1,s2,s3,rfl⟩<;>rcases p2 with⟨rfl,b,rfl,rfl,rfl⟩|⟨rfl,b,b',rfl,rfl,rfl⟩|⟨rfl,b,b',rfl,rfl,f1,f2,ow2,r1,r2,r3,rfl⟩
  ·exact Bn
  ·rw[a]at b;cases b
  ·rw[a]at b;cases b
  ·rw[a]at b;cases b
  ·exact Bn
  ·exact absurd a' b'
  ·rw[a]at b;cases b
  ·exact absurd b' a'
  ·refine⟨rfl,rfl,.refl _,WY (o:=newObj X s d1 d2 ow) (o2:=newObj X s f1 f2 ow2) ⟨rfl,rfl,rfl,rfl,.of_same s1 r1,rfl,⟨rfl,fun _ _=>rfl⟩,?_,rfl,?_⟩ lo⟩
   ·by_cases h5:0<s.cat
    ·rw[if_pos h5]at s3 r3;refine⟨r3.1.trans s3.1.symm,fun i hi=>?_⟩;have hi':i<ow.n:=hi;have e:i=0:=qQ;subst e;exact r3.2.trans s3.2.symm
    ·rw[if_neg h5]at s3 r3;rw[s3,r3];exact⟨rfl,fun _ _=>rfl⟩
   ·by_cases h5:s.kind=5
    ·rw[if_pos h5]at s2 r2;exact .of_same s2 r2
    ·rw[if_neg h5]at s2 r2;rw[s2,r2];exact⟨rfl,fun _ _=>⟨rfl,rfl⟩⟩
 |drop h e1 e3 p=>
  cases h2;all_goals try(exfalso;omega)
  rename_i h' f1 f3 p2;subst e1 f1 e3 f3;rcases p with⟨rfl,a,rfl⟩|⟨rfl,a,u,a1,a2,rfl⟩<;>rcases p2 with⟨rfl,b,rfl⟩|⟨rfl,b,u2,b1,b2,rfl⟩
  ·exact Bn
  ·rw[a]at b;cases b
  ·rw[a]at b;cases b
  ·rw[a1]at b1;cases b1;exact Bn
 |k6 h p=>
  cases h2;all_goals try(exfalso;omega)
  rename_i h' p2;rcases p with⟨a,rfl,rfl,rfl,rfl⟩|⟨u,a,⟨a1,rfl,rfl,rfl,rfl⟩|⟨a1,rfl,rfl,rfl,rfl⟩⟩<;>rcases p2 with⟨b,rfl,rfl,rfl,rfl⟩|⟨u2,b,⟨b1,rfl,rfl,rfl,rfl⟩|⟨b1,rfl,rfl,rfl,rfl⟩⟩<;>first|exact Bn|(rw[a]at b;cases b;done)|(rw[a]at b;cases b;first|exact Bn|(rw[a1]at b1;cases b1))
 |k7 h p=>
  cases h2;all_goals try(exfalso;omega)
  rename_i h' p2;rcases p with⟨a,rfl,rfl,rfl,rfl⟩|⟨u,a,rfl,rfl,rfl,rfl⟩<;>rcases p2 with⟨b,rfl,rfl,rfl,rfl⟩|⟨u2,b,rfl,rfl,rfl,rfl⟩<;>first|exact Bn|(rw[a]at b;cases b;done)|(rw[a]at b;cases b;exact Bn)
 |k8 h p=>
  cases h2;all_goals try(exfalso;omega)
  rename_i h' p2;rcases p with⟨a,rfl,rfl,rfl,rfl⟩|⟨u,a,⟨a1,rfl,rfl,rfl,rfl⟩|⟨q,a1,⟨a2,rfl,rfl,rfl,rfl⟩|⟨a2,a3,rfl,rfl,rfl,rfl⟩⟩⟩<;>rcases p2 with⟨b,rfl,rfl,rfl,rfl⟩|⟨u2,b,⟨b1,rfl,rfl,rfl,rfl⟩|⟨q2,b1,⟨b2,rfl,rfl,rfl,rfl⟩|⟨b2,b3,rfl,rfl,rfl,rfl⟩⟩⟩<;>first|exact Bn|(rw[a]at b;cases b;done)|(rw[a]at b;cases b;first|exact Bn|(rw[a1]at b1;cases b1;done)|(rw[a1]at b1;cases b1;first|exact Bn|(exfalso;rcases a2 with h|h;exact h b2;rw[h]at b3;cases b3)|(exfalso;rcases b2 with h|h;exact h a2;rw[h]at a3;cases a3)))
 |k9 h p=>
  cases h2;all_goals try(exfalso;omega)
  rename_i h' p2;rcases p with⟨a,rfl,rfl,rfl,rfl⟩|⟨u,a,⟨a1,rfl,rfl,rfl,rfl⟩|⟨a1,a2,rfl,rfl,rfl,rfl⟩|⟨a1,a2,rfl,rfl,rfl,m1,m2,rfl⟩⟩<;>rcases p2 with⟨b,rfl,rfl,rfl,rfl⟩|⟨u2,b,⟨b1,rfl,rfl,rfl,rfl⟩|⟨b1,b2,rfl,rfl,rfl,rfl⟩|⟨b1,b2,rfl,rfl,rfl,n1,n2,rfl⟩⟩<;>first|exact Bn|(rw[a]at b;cases b;done)|(rw[a]at b;cases b;first|exact Bn|(rw[a1]at b1;cases b1;done)|exact absurd a2 b2|exact absurd b2 a2|exact⟨rfl,rfl,.refl _,az ⟨rfl,rfl,rfl,rfl,⟨rfl,fun _ _=>⟨rfl,rfl⟩⟩,rfl,⟨rfl,fun _ _=>rfl⟩,⟨rfl,fun _ _=>rfl⟩,rfl,⟨rfl,fun _ _=>⟨rfl,rfl⟩⟩⟩⟩)
 |k10 h p=>
  cases h2;all_goals try(exfalso;omega)
  rename_i h' p2;rcases p with⟨a,rfl,rfl,rfl,rfl⟩|⟨u,a,⟨a1,rfl,rfl,rfl,rfl⟩|⟨a1,a2,rfl,rfl,rfl,rfl⟩|⟨a1,a2,rfl,rfl,rfl,m1,m2,rfl⟩⟩<;>rcases p2 with⟨b,rfl,rfl,rfl,rfl⟩|⟨u2,b,⟨b1,rfl,rfl,rfl,rfl⟩|⟨b1,b2,rfl,rfl,rfl,rfl⟩|⟨b1,b2,rfl,rfl,rfl,n1,n2,rfl⟩⟩<;>first|exact Bn|(rw[a]at b;cases b;done)|(rw[a]at b;cases b;first|exact Bn|(rw[a1]at b1;cases b1;done)|exact absurd a2 b2|exact absurd b2 a2|exact⟨rfl,rfl,.refl _,az ⟨rfl,rfl,rfl,rfl,⟨rfl,fun _ _=>⟨rfl,rfl⟩⟩,rfl,⟨rfl,fun _ _=>rfl⟩,⟨rfl,fun _ _=>rfl⟩,rfl,⟨rfl,fun _ _=>⟨rfl,rfl⟩⟩⟩⟩)
 |k13 h p=>
  cases h2;all_goals try(exfalso;omega)
  rename_i h' p2;rcases p with⟨a,rfl,rfl,rfl,rfl⟩|⟨u,a,⟨a1,rfl,rfl,rfl,rfl⟩|⟨a1,a2,rfl,rfl,rfl,rfl⟩|⟨a1,a2,rfl,rfl,m1,m2,rfl,rfl⟩⟩<;>rcases p2 with⟨b,rfl,rfl,rfl,rfl⟩|⟨u2,b,⟨b1,rfl,rfl,rfl,rfl⟩|⟨b1,b2,rfl,rfl,rfl,rfl⟩|⟨b1,b2,rfl,rfl,n1,n2,rfl,rfl⟩⟩<;>first|exact Bn|(rw[a]at b;cases b;done)|(rw[a]at b;cases b;first|exact Bn|(rw[a1]at b1;cases b1;done)|exact absurd a2 b2|exact absurd b2 a2|exact⟨rfl,rfl,N9 (.refl _),.refl _⟩)
 |k15 h p=>
  cases h2;all_goals try(exfalso;omega)
  rename_i h' p2;rcases p with⟨a,rfl,rfl,rfl,rfl⟩|⟨u,a,rfl,rfl,rfl,rfl⟩<;>rcases p2 with⟨b,rfl,rfl,rfl,rfl⟩|⟨u2,b,rfl,rfl,rfl,rfl⟩<;>first|exact Bn|(rw[a]at b;cases b;done)|(rw[a]at b;cases b;exact Bn)
open _root_.Bool renaming and_eq_true→qz
theorem dY{k:Av}(ok:Bh k=true):∀i,i<k.on->0<=(k.O i).id/\(k.O i).id<=1000000:=fun i hi=>by
 have h:=BU.1 ok;by_cases h0:i=0
 ·subst h0;have r:=h.root;unfold Gm at r;simp only[qz,beq_iff_eq]at r;omega
 ·obtain⟨t,h1,h2,h3,h4⟩:=FX h.thr (h.num i qQ hi);have f:=(CZ h.thr).2.2 t h1;unfold Ej at f;simp only[qz]at f;have g:=IM.1 f.1;have:=g.id;have:=g.made;omega
theorem Vg{x:Int}(h:0<=x/\x<=1000000):(Lit.int .i64 x).wf=true:=by
 have e1:IntKind.i64.min= -9223372036854775808:=by decide
 have e2:IntKind.i64.max=9223372036854775807:=by decide
 simp[Lit.wf,e1,e2];omega
theorem MR(k:Av)(w:World)(hk:k.at w)(ok:Bh k=true)(s:Aj)(hs:s.at w):
 Calls prog 28 #[.agg #[qV k.ta k.tn k.tk,qV k.oa k.on k.ok],.agg s] w fun e w'=>∃(lt:List Ae) (lo:List Ab) (lt':List Ae) (lo':List Ab) (ta:Option Addr) (ca:Nat) (oa:Option Addr) (co:Nat) (c:Int) (tx:ByteArray),e= .returned (.tuple #[.agg #[qV ta lt'.length ca,qV oa lo'.length co],.int .i64 c,.string tx])/\Bz w' w (qV ta lt'.length ca) (qV oa lo'.length co) lt' lo'/\Below w w w'/\k.same (Df none 0 none 0 lt lo)/\Ji lt lo s c tx lt' lo':=by
 have n1:No (.cells s 50):=⟨⟩;have n3:Na #[qV k.ta k.tn k.tk,qV k.oa k.on k.ok]:=⟨⟩;have n4:No (.cells #[qV none 0 0,qV none 0 0] 27):=⟨⟩;have n2:Nw (((w.alloc (.cells n3 27)).alloc n1).alloc n4):=⟨⟩;have b0:Below w w n2:=((Bg w _).alloc sI _).alloc sO _;have A0:Ag n2 w (.cells n3 27):=((Ag.new w _).alloc _).alloc _;have P0:Ag n2 (w.heap.size+1) n1:=by have:=(Ag.new (w.alloc (.cells n3 27)) n1).alloc n4;simpa using this
 have R0:Ag n2 (w.heap.size+1+1) n4:=by have:=Ag.new ((w.alloc (.cells n3 27)).alloc n1) n4;simpa using this
 have HK:=qC hk;have OK:=qC ok;have SA:=qC hs;have HB:=qC b0;have HA:=qC A0;have HP:=qC P0;have HR:=qC R0;clear b0 A0 P0 R0 hk ok hs;go_enter func28,ntmps28
 obtain⟨x0,x1⟩:=HA.out.two;obtain⟨s0,s1,s2,s3,s4,s5,s6,s7,s8,s9⟩:=HP.out.jE;go_wp2_with fail
 clear x0 x1 s0 s1 s2 s3 s4 s5 s6 s7 s8 s9;have S0:=qC HB.out.size;generalize (n2:World)=V at *;have C1:Hid (Calls prog 9 #[.agg n3] V fun e w'=>e= .returned (.bool true)/\Below V V w'):=qC (by
  have h:=FY k V (HK.out.below HB) (fun i hi=>Vg (dY OK i hi));rw[OK.out]at h;exact h)
 refine C1.out.mono ?_;rintro e w1 ⟨rfl,hb1⟩;have B1:=qC hb1;have L1:=qC (Af HB hb1);clear hb1;obtain⟨x0,x1⟩:=(HA.out.below B1).two;obtain⟨s0,s1,s2,s3,s4,s5,s6,s7,s8,s9⟩:=(HP.out.below B1).jE;go_wp2_with fail
 refine(OQ k w1 (HK.out.below L1) OK s (SA.out.below L1)).mono ?_;rintro e w2 ⟨lt,lo,lt',lo',ta,ca,oa,co,c,tx,rfl,k2,b2,sm,dp⟩;have K2:=qC (k2.base L1.out.size);have L2:=qC (Af L1 b2);have SM:=qC sm;have DP:=qC dp;have RB:=qC ((HR.out.below B1).below b2);clear k2 b2 sm dp x0 x1 s0 s1 s2 s3 s4 s5 s6 s7 s8 s9;obtain⟨r0,r1⟩:=RB.out.two;have rf:=RB.out.jC;go_wp2;refine bodyPost_ret (Al _ _ (w.heap.size+1+1) 4 _ _ _ _ Tryz.results28 ((RB.out.jB (i:=0) _).jB (i:=1) _) rfl rfl rfl) rfl ⟨lt,lo,lt',lo',ta,ca,oa,co,c,tx,rfl,?_,?_,SM,DP⟩
 ·exact(K2.out.set RB (.inl rfl) _).set (RB.out.jB (i:=0) _) (.inl rfl) _
 ·exact(L2.out.setCell qJ _).setCell qJ _
theorem Uh(k:Av)(w:World)(hk:k.at w)(ok:Bh k=false)(hw:∀i,i<k.on->(Lit.int .i64 (k.O i).id).wf=true)(s:Aj):
 Calls prog 28 #[.agg #[qV k.ta k.tn k.tk,qV k.oa k.on k.ok],.agg s] w fun e w'=>e= .returned (.tuple #[.agg #[qV none 0 0,qV none 0 0],.int .i64 1,.string ⟨#[]⟩])/\Below w w w':=by
 have n1:No (.cells s 50):=⟨⟩;have n3:Na #[qV k.ta k.tn k.tk,qV k.oa k.on k.ok]:=⟨⟩;have n4:No (.cells #[qV none 0 0,qV none 0 0] 27):=⟨⟩;have n2:Nw (((w.alloc (.cells n3 27)).alloc n1).alloc n4):=⟨⟩;have b0:Below w w n2:=((Bg w _).alloc sI _).alloc sO _;have A0:Ag n2 w (.cells n3 27):=((Ag.new w _).alloc _).alloc _;have P0:Ag n2 (w.heap.size+1) n1:=by have:=(Ag.new (w.alloc (.cells n3 27)) n1).alloc n4;simpa using this
 have R0:Ag n2 (w.heap.size+1+1) n4:=by have:=Ag.new ((w.alloc (.cells n3 27)).alloc n1) n4;simpa using this
 have HK:=qC hk;have OK:=qC ok;have HB:=qC b0;have HA:=qC A0;have HP:=qC P0;have HR:=qC R0;clear b0 A0 P0 R0 hk ok;go_enter func28,ntmps28
 obtain⟨x0,x1⟩:=HA.out.two;obtain⟨s0,s1,s2,s3,s4,s5,s6,s7,s8,s9⟩:=HP.out.jE;go_wp2_with fail
 clear x0 x1 s0 s1 s2 s3 s4 s5 s6 s7 s8 s9;have S0:=qC HB.out.size;generalize (n2:World)=V at *;have C1:Hid (Calls prog 9 #[.agg n3] V fun e w'=>e= .returned (.bool false)/\Below V V w'):=qC (by
  have h:=FY k V (HK.out.below HB) hw;rw[OK.out]at h;exact h)
 refine C1.out.mono ?_;rintro e w1 ⟨rfl,hb1⟩;have B1:=qC hb1;have L1:=qC (Af HB hb1);clear hb1;have RB:=qC (HR.out.below B1);obtain⟨r0,r1⟩:=RB.out.two;have rf:=RB.out.jC;go_wp2;refine bodyPost_ret (Al _ _ (w.heap.size+1+1) 4 _ _ _ _ Tryz.results28 ((RB.out.jB (i:=0) _).jB (i:=1) _) rfl rfl rfl) rfl ⟨rfl,?_⟩;exact(L1.out.setCell qJ _).setCell qJ _
open _root_.List renaming getElem?_eq_getElem→jM,getElem_map→xj
variable {l m lt lt2:List Ae}{k:Av}{lo lo2:List Ab}
theorem Q6.of_nm(h:Q6 (l.map Ae.nm) (m.map Ae.nm)):Q6 l m:=
 ⟨by simpa using h.1,fun j hj=>by
   have e:=h.2 j (by simpa using hj);rw[dL,dL]at e;exact e⟩
theorem QI.of_nm{l m:List Ab}(h:QI (l.map Ab.nm) (m.map Ab.nm)):QI l m:=
 ⟨by simpa using h.1,fun j hj=>by
   have e:=h.2 j (by simpa using hj);rw[I4,I4]at e;exact e⟩
theorem dN{x y z:Ae}(a:x.same y)(b:x.same z):y.nm=z.nm:=by
 obtain⟨a1,a2,a3,a4,a5,a6,a7⟩:=a;obtain⟨b1,b2,b3,b4,b5,b6,b7⟩:=b;unfold Ae.nm As.nm AJ.nm;rw[a1,b1,a2,b2,a3.1,b3.1,a3.2.1,b3.2.1,a3.2.2,b3.2.2,a4,b4,a5.1,b5.1,a5.2.1,b5.2.1,a5.2.2,b5.2.2,a6.1,b6.1,a6.2,b6.2,a7,b7]
theorem fp{x y z:Ab}(a:x.same y)(b:x.same z):y.nm=z.nm:=by
 obtain⟨a1,a2,a3,a4,a5,a6,a7,a8,a9,a10⟩:=a;obtain⟨b1,b2,b3,b4,b5,b6,b7,b8,b9,b10⟩:=b;unfold Ab.nm As.nm AJ.nm AE.nm;rw[a1,b1,a2,b2,a3,b3,a4,b4,a5.1,b5.1,a5.2.1,b5.2.1,a5.2.2,b5.2.2,a6,b6,a7.1,b7.1,a7.2,b7.2,a8.1,b8.1,a8.2,b8.2,a9,b9,a10.1,b10.1,a10.2.1,b10.2.1,a10.2.2,b10.2.2]
theorem ae(e:m.length=l.length)(h:∀j,j<l.length->(Be l j).nm=(Be m j).nm):l.map Ae.nm=m.map Ae.nm:=by
 refine List.ext_getElem (by simp[e]) fun j h1 h2=>?_;simp only[kX]at h1 h2;have:=h j h1;rw[xj,xj];unfold Be at this;rw[jN,jN,jM h1,jM h2]at this;exact this
theorem Zi{l m:List Ab}(e:m.length=l.length)(h:∀j,j<l.length->(Aa l j).nm=(Aa m j).nm):l.map Ab.nm=m.map Ab.nm:=by
 refine List.ext_getElem (by simp[e]) fun j h1 h2=>?_;simp only[kX]at h1 h2;have:=h j h1;rw[xj,xj];unfold Aa at this;rw[jN,jN,jM h1,jM h2]at this;exact this
theorem dS(h:k.same (Df none 0 none 0 lt lo))(h2:k.same (Df none 0 none 0 lt2 lo2)):lt.map Ae.nm=lt2.map Ae.nm/\lo.map Ab.nm=lo2.map Ab.nm:=by
 refine⟨ae (h2.1.trans h.1.symm) fun j hj=>?_,Zi (h2.2.2.1.trans h.2.2.1.symm) fun j hj=>?_⟩
 ·have hj':j<k.tn:=by have e:lt.length=k.tn:=h.1;omega
  exact dN (h.2.1 j hj') (h2.2.1 j hj')
 ·have hj':j<k.on:=by have e:lo.length=k.on:=h.2.2.1;omega
  exact fp (h.2.2.2 j hj') (h2.2.2.2 j hj')
theorem Wj{s:Aj}{lt' lt2':List Ae}{lo' lo2':List Ab}{c c2:Int}{tx tx2:ByteArray}(h:k.same (Df none 0 none 0 lt lo))(h2:k.same (Df none 0 none 0 lt2 lo2))(p:Ji lt lo s c tx lt' lo')(p2:Ji lt2 lo2 s c2 tx2 lt2' lo2'):WW c c2 tx tx2 lt' lt2' lo' lo2':=by
 obtain⟨et,eo⟩:=dS h h2;have ea:Us lt s.th=Us lt2 s.th:=by rw[<-dx lt,<-dx lt2,et]
 have s1:Q6 lt lt2:= .of_nm (by rw[et];exact .refl _);have s2:QI lo lo2:= .of_nm (by rw[eo];exact .refl _);cases p with
 |form a hc ht e1 e2=>
  cases p2 with
  |form a' hc' ht' e1' e2'=>exact⟨hc'.trans hc.symm,ht'.trans ht.symm,by rw[e1,e1'];exact s1,by rw[e2,e2'];exact s2⟩
  |thread a'=>rw[a]at a';cases a'
  |act a'=>rw[a]at a';cases a'
 |thread a hn hc ht e1 e2=>
  cases p2 with
  |form a'=>rw[a]at a';cases a'
  |thread a' hn' hc' ht' e1' e2'=>exact⟨hc'.trans hc.symm,ht'.trans ht.symm,by rw[e1,e1'];exact s1,by rw[e2,e2'];exact s2⟩
  |act a' t ht' hn' p2=>rw[<-ea,hn]at hn';cases hn'
 |act a t ht hn p=>
  cases p2 with
  |form a'=>rw[a]at a';cases a'
  |thread a' hn'=>rw[<-ea,hn]at hn';cases hn'
  |act a' t' ht' hn' p2=>
   rw[<-ea,hn]at hn';cases hn';have q:=dj p;have q2:=dj p2;have ex:lt[t].nm=lt2[t].nm:=by
    have e:(lt.map Ae.nm)[t]? =(lt2.map Ae.nm)[t]?:=(by rw[et]);rw[zH,zH,jM ht,jM ht']at e;exact Option.some.inj e
   rw[<-ex,<-et,<-eo]at q2;obtain⟨z1,z2,z3,z4⟩:=YB q q2;exact⟨z1,z2,.of_nm z3,.of_nm z4⟩
theorem Q6.after{n:List Ae}(h:Ni l m)(h2:Q6 m n):Q6 l n:=⟨h2.1.trans h.1,fun j hj=>by
 have e:=h2.2 j (by rw[h.1];exact hj);obtain⟨a1,a2,a3,a4,a5,a6,a7⟩:=h.2 j hj;obtain⟨b1,b2,b3,b4,b5,b6,b7⟩:=e;exact⟨b1.trans a1,b2.trans a2,⟨b3.1.trans a3.1,fun i hi=>⟨(b3.2 i (by rw[a3.1];exact hi)).1.trans (by rw[a3.2.1]),(b3.2 i (by rw[a3.1];exact hi)).2.trans (by rw[a3.2.2])⟩⟩,b4.trans a4,⟨b5.1.trans a5.1,fun i hi=>⟨(b5.2 i (by rw[a5.1];exact hi)).1.trans (by rw[a5.2.1]),(b5.2 i (by rw[a5.1];exact hi)).2.trans (by rw[a5.2.2])⟩⟩,⟨b6.1.trans a6.1,fun i hi=>(b6.2 i (by rw[a6.1];exact hi)).trans (by rw[a6.2])⟩,b7.trans a7⟩⟩
theorem QI.after{l m n:List Ab}(h:Jm l m)(h2:QI m n):QI l n:=⟨h2.1.trans h.1,fun j hj=>by
 have e:=h2.2 j (by rw[h.1];exact hj);obtain⟨a1,a2,a3,a4,a5,a6,a7,a8,a9,a10⟩:=h.2 j hj;obtain⟨b1,b2,b3,b4,b5,b6,b7,b8,b9,b10⟩:=e;exact⟨b1.trans a1,b2.trans a2,b3.trans a3,b4.trans a4,⟨b5.1.trans a5.1,fun i hi=>⟨(b5.2 i (by rw[a5.1];exact hi)).1.trans (by rw[a5.2.1]),(b5.2 i (by rw[a5.1];exact hi)).2.trans (by rw[a5.2.2])⟩⟩,b6.trans a6,⟨b7.1.trans a7.1,fun i hi=>(b7.2 i (by rw[a7.1];exact hi)).trans (by rw[a7.2])⟩,⟨b8.1.trans a8.1,fun i hi=>(b8.2 i (by rw[a8.1];exact hi)).trans (by rw[a8.2])⟩,b9.trans a9,⟨b10.1.trans a10.1,fun i hi=>⟨(b10.2 i (by rw[a10.1];exact hi)).1.trans (by rw[a10.2.1]),(b10.2 i (by rw[a10.1];exact hi)).2.trans (by rw[a10.2.2])⟩⟩⟩⟩
open _root_.List renaming getElem_mem→qk,range→qx,mem_range→jG
variable {n t:Nat}{X:Ae}{lt lt':List Ae}{L:List Int}{h:Nat->Int}{c:Int}{s:Aj}{lo lo':List Ab}{tx:ByteArray}{o:Ab}
theorem OJ{b:Int}{c d:As}(h:c.same d)(hl:Bb b c.n c.f c.g=true):Bb b d.n d.f d.g=true:=by
 obtain⟨h1,h2,h3⟩:=h;rw[h1,h2,h3];exact hl
theorem Tt{T:Nat->Ae}(h:BH n T=true):DK (fun i=>(T i).id) n:=Lt fun i i0 hi=>by
 have:=(CZ h).2.2 i hi;unfold Ej at this;simp only[qz,Bool.or_eq_true,decide_eq_true_eq,beq_iff_eq]at this;rcases this.2 with e|e
 ·omega
 ·exact e
theorem XQ(h:Pe X):1001<=Aw X/\Aw X<=9999:=by
 have:=h.id;have:=h.made;unfold Aw;omega
theorem Wp(ht:t<lt.length):lt.set t lt[t]=lt:=FE ht
theorem cz(h:Pe X)(hn:¬X.own.n=10)(e:L=Eh ((qx X.own.n).map X.own.h) (Aw X)):Cf L.length (AZ L)=true:=by
 obtain⟨h1,h2,h3⟩:=Hw.1 h.own;subst e;refine OX ?_ (J8 h2) (fun x hx=>?_)
 ·have:=Lu ((qx X.own.n).map X.own.h) (Aw X);simp at this;omega
 ·rcases OF hx with hx|hx
  ·exact h3 x hx
  ·have:=XQ h;omega
theorem aW{x:Int}(hx:x∈Dm h c n):x∈(qx n).map h:=(List.mem_filter.1 hx).1
theorem YP(ho:Cf n h=true):Cf (Dm h c n).length (AZ (Dm h c n))=true:=by
 obtain⟨h1,h2,h3⟩:=Hw.1 ho;refine OX ?_ (h2.filter _) (fun x hx=>h3 x (aW hx));have:=MN h c n;omega
theorem Vh:∀{q:Nat}{x:Int},x∈Ed L h q->x∈L∨∃i,i<q/\x=h i
 |0,x,hx=> .inl hx
 |q+1,x,hx=>by
  rcases OF hx with hx|hx
  ·rcases Vh hx with hx|⟨i,hi,e⟩
   ·exact .inl hx
   ·exact .inr ⟨i,by omega,e⟩
  ·exact .inr ⟨q,by omega,hx⟩
theorem Oc(hL:L.Pairwise (· <·)):∀q,(Ed L h q).Pairwise (· <·)
 |0=>hL
 |q+1=>J8 (Oc hL q)
theorem Nq:By ⟨#[]⟩ 40=true:=by decide
theorem Yu(sf:Xd s){d1 d2:As}{ow:AJ}(hk:s.kind=2∨s.kind=3∨s.kind=4∨s.kind=5)(e1:s.c1.same d1)(e2:if s.kind=5 then s.c2.same d2 else d2=Ao)(e3:if 0<s.cat then ow.n=1/\ow.h 0=s.cat else ow=Fx):NY (newObj X s d1 d2 ow):=by
 have hw:Cf ow.n ow.h=true:=by
  by_cases h:0<s.cat
  ·rw[if_pos h]at e3;have hc:=sf.cat;have e:(s.cat==0)=false:=(by simp only[beq_eq_false_iff_ne,ne_eq];omega);unfold Pt at hc;rw[e]at hc;simp only[Bool.false_eq_true,if_false,qz,CY]at hc;rw[e3.1];simp[Cf,Ef,e3.2,Ev];omega
  ·rw[if_neg h]at e3;rw[e3];rfl
 have h2:Bb (newObj X s d1 d2 ow).b2 d2.n d2.f d2.g=true:=by
  unfold newObj;by_cases h:s.kind=5
  ·rw[if_pos h]at e2;simp only[if_pos h];exact OJ e2 sf.l2
  ·rw[if_neg h]at e2;simp only[if_neg h];rw[e2];rfl
 refine⟨OJ e1 sf.l1,h2,hw,Nq,rfl,?_⟩;have ce:=Jf sf;have noCat:s.kind≠5->ow=Fx:=fun h=>by
  have:=ce.1 qQ;rw[if_neg qQ]at e3;exact e3
 unfold newObj Hp;rcases hk with h|h|h|h
 ·have e4:=noCat qQ;rw[if_neg qQ]at e2;subst e2;subst e4;simp[h,DV,Ao,Fx]
 ·have e4:=noCat qQ;rw[if_neg qQ]at e2;subst e2;subst e4;simp[h,DV,Ao,Fx]
 ·have e4:=noCat qQ;rw[if_neg qQ]at e2;subst e2;subst e4;simp[h,DV,Ao,Fx]
 ·simp[h]
theorem ZH(ok:okL lt lo=true)(ht:t<lt.length)(so:s.ok=true)(hk:s.kind=2∨s.kind=3∨s.kind=4∨s.kind=5)(p:YZ lt[t] s lt lo t c tx lt' lo'):okL lt' lo'=true:=by
 rcases p with⟨_,_,_,rfl,rfl⟩|⟨_,_,_,_,rfl,rfl⟩|⟨_,mb,m30,_,rfl,d1,d2,ow,e1,e2,e3,rfl⟩
 ·exact ok
 ·exact ok
 ·have X:=FK ok _ (qk ht);have m1:=X.made;have i1:=X.id;have ok1:=JP ok ht (x:=⟨lt[t].id,lt[t].b1,lt[t].c1,lt[t].b2,lt[t].c2,lt[t].own,lt[t].made+1⟩) ⟨X.id,X.l1,X.l2,X.own,by dsimp only;omega⟩ rfl qJ;unfold Gg at mb;cases hu:Hq lo s.id with
  |none=>rw[hu]at mb;cases mb
  |some u=>
   rw[hu]at mb;simp only[qz,decide_eq_true_eq]at mb;have kk:=BU.1 ok;have k1:=BU.1 ok1;have nc:Aw lt[t]=1000*lt[t].id+lt[t].made+1:=rfl;refine ct ok1 (Yu (Hu so) hk e1 e2 e3) ?_ hu mb.1.1.1.1 (fun j hj=>?_) (by show 1<Aw lt[t];omega)
   ·have et:Be (lt.set t (⟨lt[t].id,lt[t].b1,lt[t].c1,lt[t].b2,lt[t].c2,lt[t].own,lt[t].made+1⟩:Ae)) t=⟨lt[t].id,lt[t].b1,lt[t].c1,lt[t].b2,lt[t].c2,lt[t].own,lt[t].made+1⟩:=by
     have:=Wz (l:=lt) (t:=t) (j:=t) (x:=(⟨lt[t].id,lt[t].b1,lt[t].c1,lt[t].b2,lt[t].c2,lt[t].own,lt[t].made+1⟩:Ae)) (z:=Ae.z) ht;rw[if_pos rfl]at this;exact this
    refine Vl k1.thr (t:=t) (by simpa[Df]using ht) ?_ ?_ ?_
    ·show(Be _ t).id=Aw lt[t]/1000;rw[et];show lt[t].id=Aw lt[t]/1000;omega
    ·show 1<=Aw lt[t]%1000;omega
    ·show Aw lt[t]%1000<=(Be _ t).made;rw[et];show Aw lt[t]%1000<=lt[t].made+1;omega
   ·intro e;have e':(Aa lo j).id=Aw lt[t]:=e;by_cases h0:j=0
    ·subst h0;have:=(GU ok).2.1;omega
    ·obtain⟨t',h1,h2,h3,h4⟩:=FX kk.thr (kk.num j qQ hj);have g1:(Be lt t').id=(Aa lo j).id/1000:=h2;have g2:(Aa lo j).id%1000<=(Be lt t').made:=h4;have g3:(Be lt t).id=lt[t].id:=(by rw[Ey ht]);have e3:t'=t:=(Tt kk.thr).inj h1 ht (by show(Be lt t').id=(Be lt t).id;rw[g1,g3,e'];omega);subst e3;rw[Ey ht,e']at g2;omega
theorem Xf(f:NY o){d:ByteArray}(h1:o.kind=1)(hd:By d 40=true):NY ⟨o.id,o.kind,o.up,o.b1,o.c1,d,o.jA,o.own,o.b2,o.c2⟩:=by
 refine⟨f.l1,f.l2,f.own,hd,f.jA,?_⟩;have:=f.kind;unfold Hp at this ⊢;simp only[h1,if_true]at this ⊢;exact this
theorem Ua(f:NY o){d:AE}(h1:o.kind=2)(hd:En d.n d.f=true):NY ⟨o.id,o.kind,o.up,o.b1,o.c1,o.data,d,o.own,o.b2,o.c2⟩:=by
 refine⟨f.l1,f.l2,f.own,f.data,hd,?_⟩;have:=f.kind;unfold Hp at this ⊢;simp only[h1]at this ⊢;exact this
theorem Kh{f:Nat->ByteArray}:En n f=true↔n<=8/\∀i,i<n->By (f i) 40=true:=by
 unfold En;simp only[qz,decide_eq_true_eq,List.all_eq_true,jG]
theorem cr(ok:okL lt lo=true)(ht:t<lt.length)(so:s.ok=true)(p:GC lt[t] s lt lo t c tx lt' lo'):okL lt' lo'=true:=by
 have X:=FK ok _ (qk ht);have sf:=Hu so;cases p with
 |k1 h x e1 e2 p=>
  subst e1 e2;rcases p with⟨_,_,rfl,_⟩|⟨_,hn,_,a,cc,rfl⟩
  ·rw[Wp ht];exact ok
  ·have:=X.made;exact JP ok ht ⟨X.id,X.l1,X.l2,cz X (fun e=>hn (.inr e)) rfl,by dsimp only;omega⟩ rfl qJ
 |k12 h x e1 e2 e3 p=>
  subst e1 e2;rcases p with⟨_,_,rfl⟩|⟨_,_,d,sd,rfl⟩
  ·rw[Wp ht];exact ok
  ·exact JP ok ht ⟨X.id,OJ sd sf.l1,X.l2,X.own,X.made⟩ rfl (Int.le_refl _)
 |k14 h x e1 e2 e3 p=>
  subst e1 e2;rcases p with⟨_,_,rfl⟩|⟨_,_,a,cc,rfl⟩
  ·rw[Wp ht];exact ok
  ·exact JP ok ht ⟨X.id,X.l1,X.l2,YP X.own,X.made⟩ rfl (Int.le_refl _)
 |make h p=>exact ZH ok ht so h p
 |drop h e1 e3 p=>
  subst e1;rcases p with⟨_,_,rfl⟩|⟨_,_,u,hu,u0,rfl⟩
  ·exact ok
  ·exact bU ok hu u0
 |k6 h p=>
  rcases p with⟨_,_,_,rfl,rfl⟩|⟨u,hu,⟨_,_,_,rfl,rfl⟩|⟨_,_,_,rfl,rfl⟩⟩
  ·exact ok
  ·exact ok
  ·obtain⟨_,ul,i1,k1,_⟩:=Ew hu;rw[AL ul];exact Md ok ul (Xf (Fs ok _ (qk ul)) k1 sf.data) rfl rfl rfl
 |k7 h p=>
  rcases p with⟨_,_,_,rfl,rfl⟩|⟨u,hu,_,_,rfl,rfl⟩
  ·exact ok
  ·exact ok
 |k8 h p=>
  rcases p with⟨_,_,_,rfl,rfl⟩|⟨u,hu,⟨_,_,_,rfl,rfl⟩|⟨v,hv,⟨_,_,_,rfl,rfl⟩|⟨kv,_,_,_,rfl,rfl⟩⟩⟩
  ·exact ok
  ·exact ok
  ·exact ok
  ·obtain⟨_,ul,_⟩:=Ew hu;obtain⟨vl,_⟩:=Ht hv;rw[AL vl]at kv;rw[AL vl,AL ul];exact Md ok vl (Xf (Fs ok _ (qk vl)) kv (Fs ok _ (qk ul)).data) rfl rfl rfl
 |k9 h p=>
  rcases p with⟨_,_,_,rfl,rfl⟩|⟨u,hu,⟨_,_,_,rfl,rfl⟩|⟨_,_,_,_,rfl,rfl⟩|⟨_,n8,_,_,rfl,a,c',rfl⟩⟩
  ·exact ok
  ·exact ok
  ·exact ok
  ·obtain⟨_,ul,i1,k1,_⟩:=Ew hu;rw[AL ul]at n8 ⊢;have f:=Fs ok _ (qk ul);have it:=Kh.1 f.jA;refine Md ok ul (Ua f k1 (Kh.2 ⟨by dsimp only;omega,fun i hi=>?_⟩)) rfl rfl rfl;dsimp only;unfold Dw;split
   ·rename_i h1;exact it.2 i h1
   ·exact sf.data
 |k10 h p=>
  rcases p with⟨_,_,_,rfl,rfl⟩|⟨u,hu,⟨_,_,_,rfl,rfl⟩|⟨_,_,_,_,rfl,rfl⟩|⟨_,n0,_,_,rfl,a,c',rfl⟩⟩
  ·exact ok
  ·exact ok
  ·exact ok
  ·obtain⟨_,ul,i1,k1,_⟩:=Ew hu;rw[AL ul]at n0 ⊢;have f:=Fs ok _ (qk ul);have it:=Kh.1 f.jA;refine Md ok ul (Ua f k1 (Kh.2 ⟨by dsimp only;omega,fun i hi=>?_⟩)) rfl rfl rfl;dsimp only at hi ⊢;exact it.2 (i+1) qQ
 |k13 h p=>
  rcases p with⟨_,_,_,rfl,rfl⟩|⟨u,hu,⟨_,_,_,rfl,rfl⟩|⟨_,_,_,_,rfl,rfl⟩|⟨_,nb,_,_,a,c',rfl,rfl⟩⟩
  ·exact ok
  ·exact ok
  ·exact ok
  ·obtain⟨_,ul,i1,k1,_⟩:=Ew hu;rw[AL ul]at nb ⊢;have f:=Fs ok _ (qk ul);obtain⟨_,x2,x3⟩:=Hw.1 X.own;obtain⟨_,_,f3⟩:=Hw.1 f.own;refine JP ok ht ⟨X.id,X.l1,X.l2,OX qQ (Oc x2 _) (fun x hx=>?_),X.made⟩ rfl (Int.le_refl _);rcases Vh hx with hx|⟨i,hi,rfl⟩
   ·exact x3 x hx
   ·exact f3 _ (List.mem_map.2 ⟨i,jG.2 hi,rfl⟩)
 |k15 h p=>
  rcases p with⟨_,_,_,rfl,rfl⟩|⟨u,hu,_,_,rfl,rfl⟩
  ·exact ok
  ·exact ok
theorem IB(ok:okL lt lo=true)(p:Ji lt lo s c tx lt' lo'):okL lt' lo'=true:=by
 cases p with
 |form h hc ht e1 e2=>subst e1 e2;exact ok
 |thread h hn hc ht e1 e2=>subst e1 e2;exact ok
 |act h t ht hn p=>exact cr ok ht h p
variable {s t:Aj}{lt:List Ae}{lo:List Ab}{c:Int}{tx:ByteArray}{k:Av}
def Aj.same(s t:Aj):Prop:=t.th=s.th/\t.kind=s.kind/\t.id=s.id/\t.to=s.to/\t.cat=s.cat/\t.data=s.data/\t.b1=s.b1/\s.c1.same t.c1/\t.b2=s.b2/\s.c2.same t.c2
theorem YJ{lt':List Ae}{lo':List Ab}(e:s.same t)(h:Ji lt lo t c tx lt' lo'):Ji lt lo s c tx lt' lo':=by
 obtain⟨s1,s2,s3,s4,s5,s6,s7,⟨sa,sn,sk,sf,sg⟩,s9,⟨ra,rn,rk,rf,rg⟩⟩:=s;obtain⟨t1,t2,t3,t4,t5,t6,t7,⟨ta,tn,tk,tf,tg⟩,t9,⟨ua,un,uk,uf,ug⟩⟩:=t;obtain⟨e1,e2,e3,e4,e5,e6,e7,⟨f1,f2,f3⟩,e9,⟨g1,g2,g3⟩⟩:=e;dsimp only at e1 e2 e3 e4 e5 e6 e7 f1 f2 f3 e9 g1 g2 g3;subst e1 e2 e3 e4 e5 e6 e7 f1 f2 f3 e9 g1 g2 g3;cases h with
 |form a b c d e=>exact .form a b c d e
 |thread a b c d e f=>exact .thread a b c d e f
 |act a t ht hn p=>
  refine .act a t ht hn ?_;cases p with
  |k1 h x e1 e2 p=>exact .k1 h x e1 e2 p
  |k12 h x e1 e2 e3 p=>exact .k12 h x e1 e2 e3 p
  |k14 h x e1 e2 e3 p=>exact .k14 h x e1 e2 e3 p
  |make h p=>exact .make h p
  |drop h e1 e3 p=>exact .drop h e1 e3 p
  |k6 h p=>exact .k6 h p
  |k7 h p=>exact .k7 h p
  |k8 h p=>exact .k8 h p
  |k9 h p=>exact .k9 h p
  |k10 h p=>exact .k10 h p
  |k13 h p=>exact .k13 h p
  |k15 h p=>exact .k15 h p
def Fy(k:Av)(s:Aj)(c:Int)(tx:ByteArray)(lt:List Ae)(lo:List Ab):Prop:=
 (Bh k=false/\c=1/\tx=⟨#[]⟩/\lt=[]/\lo=[])∨
 (Bh k=true/\∃(Ju:List Ae) (Qf:List Ab) (lt2:List Ae) (lo2:List Ab),k.same (Df none 0 none 0 Ju Qf)/\Ni lt lt2/\Jm lo lo2/\Ji Ju Qf s c tx lt2 lo2)
theorem Fy.of{l:Av}(hk:k.same l)(hs:s.same t)(h:Fy l t c tx lt lo):Fy k s c tx lt lo:=by
 have e:=Cc hk;rcases h with⟨a,b⟩|⟨a,Ju,Qf,lt2,lo2,b,x,y,d⟩
 ·exact .inl ⟨e▸a,b⟩
 ·refine .inr ⟨e▸a,Ju,Qf,lt2,lo2,?_,x,y,YJ hs d⟩;obtain⟨h1,h2,h3,h4⟩:=hk;refine⟨b.1.trans h1,fun j hj=>?_,b.2.2.1.trans h3,fun j hj=>?_⟩
  ·obtain⟨a1,a2,a3,a4,a5,a6,a7⟩:=h2 j hj;obtain⟨b1,b2,b3,b4,b5,b6,b7⟩:=b.2.1 j (by rw[h1];exact hj);exact⟨b1.trans a1,b2.trans a2,⟨b3.1.trans a3.1,b3.2.1.trans a3.2.1,b3.2.2.trans a3.2.2⟩,b4.trans a4,⟨b5.1.trans a5.1,b5.2.1.trans a5.2.1,b5.2.2.trans a5.2.2⟩,⟨b6.1.trans a6.1,b6.2.trans a6.2⟩,b7.trans a7⟩
  ·obtain⟨a1,a2,a3,a4,a5,a6,a7,a8,a9,a10⟩:=h4 j hj;obtain⟨b1,b2,b3,b4,b5,b6,b7,b8,b9,b10⟩:=b.2.2.2 j (by rw[h3];exact hj);exact⟨b1.trans a1,b2.trans a2,b3.trans a3,b4.trans a4,⟨b5.1.trans a5.1,b5.2.1.trans a5.2.1,b5.2.2.trans a5.2.2⟩,b6.trans a6,⟨b7.1.trans a7.1,b7.2.trans a7.2⟩,⟨b8.1.trans a8.1,b8.2.trans a8.2⟩,b9.trans a9,⟨b10.1.trans a10.1,b10.2.1.trans a10.2.1,b10.2.2.trans a10.2.2⟩⟩
theorem Q6.flip{l m:List Ae}(h:Q6 l m):Q6 m l:=⟨h.1.symm,fun j hj=>by
 obtain⟨a1,a2,a3,a4,a5,a6,a7⟩:=h.2 j (by rw[<-h.1];exact hj);exact⟨a1.symm,a2.symm,⟨a3.1.symm,fun i hi=>⟨(a3.2 i (by rw[<-a3.1];exact hi)).1.symm,(a3.2 i (by rw[<-a3.1];exact hi)).2.symm⟩⟩,a4.symm,⟨a5.1.symm,fun i hi=>⟨(a5.2 i (by rw[<-a5.1];exact hi)).1.symm,(a5.2 i (by rw[<-a5.1];exact hi)).2.symm⟩⟩,⟨a6.1.symm,fun i hi=>(a6.2 i (by rw[<-a6.1];exact hi)).symm⟩,a7.symm⟩⟩
theorem QI.flip{l m:List Ab}(h:QI l m):QI m l:=⟨h.1.symm,fun j hj=>by
 obtain⟨a1,a2,a3,a4,a5,a6,a7,a8,a9,a10⟩:=h.2 j (by rw[<-h.1];exact hj);exact⟨a1.symm,a2.symm,a3.symm,a4.symm,⟨a5.1.symm,fun i hi=>⟨(a5.2 i (by rw[<-a5.1];exact hi)).1.symm,(a5.2 i (by rw[<-a5.1];exact hi)).2.symm⟩⟩,a6.symm,⟨a7.1.symm,fun i hi=>(a7.2 i (by rw[<-a7.1];exact hi)).symm⟩,⟨a8.1.symm,fun i hi=>(a8.2 i (by rw[<-a8.1];exact hi)).symm⟩,a9.symm,⟨a10.1.symm,fun i hi=>⟨(a10.2 i (by rw[<-a10.1];exact hi)).1.symm,(a10.2 i (by rw[<-a10.1];exact hi)).2.symm⟩⟩⟩⟩
theorem Tz{c2:Int}{tx2:ByteArray}{lt2:List Ae}{lo2:List Ab}(h:Fy k s c tx lt lo)(h2:Fy k s c2 tx2 lt2 lo2):WW c c2 tx tx2 lt lt2 lo lo2:=by
 rcases h with⟨a,rfl,rfl,rfl,rfl⟩|⟨a,x1,x2,x3,x4,x5,x6,x7,x8⟩<;>rcases h2 with⟨b,rfl,rfl,rfl,rfl⟩|⟨b,y1,y2,y3,y4,y5,y6,y7,y8⟩
 ·exact Bn
 ·rw[a]at b;cases b
 ·rw[a]at b;cases b
 ·obtain⟨z1,z2,z3,z4⟩:=Wj x5 y5 x8 y8;exact⟨z1,z2,(Q6.after y6 (Q6.after x6 z3).flip).flip,(QI.after y7 (QI.after x7 z4).flip).flip⟩
theorem Fy.okL(h:Fy k s c tx lt lo):(lt=[]/\lo=[])∨okL lt lo=true:=by
 rcases h with⟨_,_,_,e1,e2⟩|⟨a,Ju,Qf,lt2,lo2,b,x,y,d⟩
 ·exact .inl ⟨e1,e2⟩
 ·have o0:Go.Proofs.YtdaccbddcjlkpaaGreatDoor.okL Ju Qf=true:=(Cc b).trans a;have o2:=IB o0 d;exact .inr ((Cc (k:=Df none 0 none 0 lt lo) (l:=Df none 0 none 0 lt2 lo2) ⟨x.1,x.2,y.1,y.2⟩).symm.trans o2)
def fZ(k:Av)(s:Aj)(w:World)(e:Ending)(w':World):Prop:=
 ∃(lt:List Ae) (lo:List Ab) (ta oa:Option Addr) (ca co:Nat) (c:Int) (tx:ByteArray),e= .returned (.tuple #[.agg #[.slice ta lt.length ca,.slice oa lo.length co],.int .i64 c,.string tx])/\Ho w' w (.slice ta lt.length ca) (.slice oa lo.length co) lt lo/\Apart lt lo/\Fy k s c tx lt lo/\Below w w w'
theorem aQ(w:World)(B:Nat):Ho w B (.slice none 0 0) (.slice none 0 0) [] []:=
 ⟨⟨rfl,.inl ⟨rfl,rfl⟩⟩,⟨rfl,.inl ⟨rfl,rfl⟩⟩,fun x hx=>(by cases hx),fun x hx=>(by cases hx)⟩
theorem au.ans{w w':World}{e:Ending}(h:au k s w e w'):fZ k s w e w':=by
 obtain⟨b,kv,c,tx,rfl,⟨n,rfl,rfl,rfl⟩|⟨ok,lt,lo,lt',lt2,lo',lo2,ta,oa,ca,co,sm,rfl,ks,ap,x,y,d⟩⟩:=h
 ·exact⟨[],[],none,none,0,0,1,⟨#[]⟩,rfl,aQ _ _,.nil,.inl ⟨n,rfl,rfl,rfl,rfl⟩,b⟩
 ·exact⟨lt',lo',ta,oa,ca,co,c,tx,rfl,ks,ap,.inr ⟨ok,lt,lo,lt2,lo2,sm,x,y,d⟩,b⟩
end Go.Proofs.YtdaccbddcjlkpaaGreatDoor
