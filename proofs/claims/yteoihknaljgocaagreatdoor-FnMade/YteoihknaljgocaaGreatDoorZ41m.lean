import Derived.Test.YteoihknaljgocaaGreatDoorRows
import Derived.ChangeSame
import Derived.ChangeVars
import Derived.JoinedOf
import Derived.LaidLaws
import Derived.LaidHandle
import Derived.Stop.LaidErr
import Derived.Lib.LaidTab
import Derived.Deep.DeepLaidRun
import Derived.SevenTiedAt
import Derived.Lib.SmallJoins
import Derived.OpenShut
import Derived.ShutString
import Derived.ChangeOld
import Derived.ChangeMaps5
import Derived.Deep.SlicePairs
import Derived.Test.YteoihknaljgocaaGreatDoorZ36m
set_option maxRecDepth 100000
namespace Go.Proofs.YteoihknaljgocaaGreatDoor
open Go.ChangeShapes Go.WideShapes Go.ChangeAt Go.RowKit Go.Deep Go.Joins Go.Proofs.Tryz
variable {n:String}{W:World}{g:Nat}{x:List UInt8}{a:Addr}
theorem Tryz.cells9:prog.cellsOf 9=1:=by kernel_rfl
theorem VN:prog.cellsOf 278=1:=by kernel_rfl
theorem Sg: "*" ++ "errors.errorString" = "*errors.errorString" :=by decide
theorem YE(u:TypeId)(h:prog.typeName? 3 u=some "*errors.errorString"):u=259:=
 typeName_ptr_named (nm:= "errors.errorString") (by rw[Sg];kernel_rfl) (by kernel_rfl) (by decide) u (by rw[Sg];exact h)
def bK(W:World)(n:String)(text:List UInt8)(a:Addr):Prop:=W.var? prog n=some #[.iface 259 (.pointer (some a))]/\(∃s:ByteArray,W.cell? a=some (.string s)/\s.data.toList=text)/\∃ca ta,W.heap[a.block]? =some (.cells ca ta (0,0))
theorem LJ{text:List UInt8}{r:List (String×DataW Unit)}(h:laidMet prog ((n,.iface "*errors.errorString" (.ptr (.agg [.lit (.string text)])))::r) W)(hg:prog.globalNamed n=some g)(ht:(prog.globals[g]?).map (·.type)=some 57):∃a,bK W n text a:=by
 obtain⟨ps,⟨g0,t0,cs0,f0,p0,q0,hg0,ht0,hv0,hd0,_,e0⟩,_,hrows⟩:=h;obtain rfl:=Option.some.inj (hg.symm.trans hg0);obtain rfl:=Option.some.inj (ht.symm.trans ht0);subst e0;obtain⟨l0⟩:=cs0;have ok0:∀u v,l0=[.iface u v]->Value.okWide prog W .any 0 u v:=fun u v e=>by
  subst e;exact(hrows g 0 (by simp[MemPlace.row])).2 u v (by simpa using World.var?_cell hg0 hv0 0)
 obtain⟨a0,s0,rfl,hc0,hs0,hz0,rfl⟩:=errorString_of_trod underlying57 YE underlying259 underlying278 rfl rfl underlying9 VN Tryz.cells9 hd0 ok0;exact⟨a0,hv0,⟨s0,hc0,hs0⟩,(hrows a0.block a0.off (by simp[MemPlace.row])).1⟩
theorem Gy{m:String}{y:List UInt8}{b:Addr}(h:bK W n x a)(k:bK W m y b)(d:x≠y):a≠b:=fun e=>by
 obtain⟨s,h1,h2⟩:=h.2.1;obtain⟨t,k1,k2⟩:=k.2.1;subst e;rw[h1]at k1;cases k1;exact d (h2.symm.trans k2)
theorem Ur{cs:Array Value}(hg:prog.globalNamed n=some g)(h:W.var? prog n=some cs):g<W.heap.size:=by
 by_cases e:g<W.heap.size
 ·exact e
 ·simp only[World.var?,hg,Option.bind_some]at h;rw[Array.getElem?_eq_none (by omega)]at h;cases h
theorem DJ{W':World}{cs:Array Value}(hg:prog.globalNamed n=some g)(h:W.var? prog n=some cs)(bel:Below W W W'):W'.var? prog n=some cs:=by
 have h0:=Ur hg h;unfold World.var? at h ⊢;simp only[hg,Option.bind_some]at h ⊢;rw[bel.block g h0];exact h
theorem Gg(hg:prog.globalNamed n=some g)(h:bK W n x a):W.cell? ⟨g,0,none⟩=some (.iface 259 (.pointer (some a)))/\g<W.heap.size:=⟨by simpa using World.var?_cell hg h.1 0,Ur hg h.1⟩
theorem bR:prog.globalNamed "loop.example/g00272/impl.errWrong" =some 0:=by kernel_rfl
theorem cw:(prog.globals[0]?).map (·.type)=some 57:=by kernel_rfl
theorem bL:prog.globalNamed "loop.example/g00272/impl.errForm" =some 1:=by kernel_rfl
theorem cE:(prog.globals[1]?).map (·.type)=some 57:=by kernel_rfl
theorem bO:prog.globalNamed "loop.example/g00272/impl.errThread" =some 2:=by kernel_rfl
theorem cB:(prog.globals[2]?).map (·.type)=some 57:=by kernel_rfl
theorem bV:prog.globalNamed "loop.example/g00272/impl.errMade" =some 4:=by kernel_rfl
theorem cz:(prog.globals[4]?).map (·.type)=some 57:=by kernel_rfl
theorem bN:prog.globalNamed "loop.example/g00272/impl.errOwns" =some 5:=by kernel_rfl
theorem cx:(prog.globals[5]?).map (·.type)=some 57:=by kernel_rfl
theorem bW:prog.globalNamed "loop.example/g00272/impl.errKind" =some 6:=by kernel_rfl
theorem cD:(prog.globals[6]?).map (·.type)=some 57:=by kernel_rfl
theorem bY:prog.globalNamed "loop.example/g00272/impl.errRoot" =some 7:=by kernel_rfl
theorem cF:(prog.globals[7]?).map (·.type)=some 57:=by kernel_rfl
theorem bX:prog.globalNamed "loop.example/g00272/impl.errChange" =some 8:=by kernel_rfl
theorem cv:(prog.globals[8]?).map (·.type)=some 57:=by kernel_rfl
theorem bU:prog.globalNamed "loop.example/g00272/impl.errFlow" =some 9:=by kernel_rfl
theorem cy:(prog.globals[9]?).map (·.type)=some 57:=by kernel_rfl
theorem Za:prog.globalNamed "loop.example/g00272/impl.errOwn" =some 10:=by kernel_rfl
theorem bj:(prog.globals[10]?).map (·.type)=some 57:=by kernel_rfl
theorem YP:prog.globalNamed "loop.example/g00272/impl.errSee" =some 11:=by kernel_rfl
theorem bI:(prog.globals[11]?).map (·.type)=some 57:=by kernel_rfl
theorem YJ:prog.globalNamed "loop.example/g00272/impl.errItems" =some 12:=by kernel_rfl
theorem aX:(prog.globals[12]?).map (·.type)=some 57:=by kernel_rfl
theorem Zj:prog.globalNamed "loop.example/g00272/impl.errNone" =some 13:=by kernel_rfl
theorem bo:(prog.globals[13]?).map (·.type)=some 57:=by kernel_rfl
def N0:List (String×DataW Unit):=[("math/bits.deBruijn32tab",Rows.laid_math_bits_deBruijn32tab),("math/bits.deBruijn64tab",Rows.laid_math_bits_deBruijn64tab),("internal/strconv.uint64pow10",Lib.tabData .u64 Lib.pow10Tab),("loop.example/g00272/impl.errWrong",Rows.laid_loop_example_g00272_impl_errWrong),("loop.example/g00272/impl.errForm",Rows.laid_loop_example_g00272_impl_errForm),("loop.example/g00272/impl.errThread",Rows.laid_loop_example_g00272_impl_errThread),("loop.example/g00272/impl.errKind",Rows.laid_loop_example_g00272_impl_errKind),("loop.example/g00272/impl.errRoot",Rows.laid_loop_example_g00272_impl_errRoot),("loop.example/g00272/impl.errSee",Rows.laid_loop_example_g00272_impl_errSee),("loop.example/g00272/impl.errChange",Rows.laid_loop_example_g00272_impl_errChange),("loop.example/g00272/impl.errFlow",Rows.laid_loop_example_g00272_impl_errFlow),("loop.example/g00272/impl.errOwn",Rows.laid_loop_example_g00272_impl_errOwn),("loop.example/g00272/impl.errMade",Rows.laid_loop_example_g00272_impl_errMade),("loop.example/g00272/impl.errOwns",Rows.laid_loop_example_g00272_impl_errOwns),("loop.example/g00272/impl.errItems",Rows.laid_loop_example_g00272_impl_errItems),("loop.example/g00272/impl.errNone",Rows.laid_loop_example_g00272_impl_errNone)]
theorem Tryz.g14:prog.globalNamed "internal/strconv.uint64pow10" =some 14:=by kernel_rfl
theorem Tryz.g14t:(prog.globals[14]?).map (·.type)=some 249:=by kernel_rfl
theorem Tryz.cells249:prog.cellsOf 249=20:=by kernel_rfl
theorem Tryz.et:prog.globalNamed "errors.errorType" =some 3:=by kernel_rfl
theorem Tryz.rt:(prog.cutTypes.find? (·.1== "internal/reflectlite.rtype")).map (·.2)=some 147:=by kernel_rfl
theorem Tryz.oneRow:((List.range 290).filter fun t=>prog.rowNamed t [101,114,114,111,114])=[57]:=by kernel_rfl
theorem Tryz.tsize:prog.types.size=290:=by kernel_rfl
theorem Tryz.hand:typeHandle prog 57= .pointer (some ⟨18,57,none⟩):=by kernel_rfl
theorem VJ(h:handlesMet prog [("errors.errorType",Rows.laid_errors_errorType)] W):W.var? prog "errors.errorType" =some #[.iface 147 (.agg #[.pointer (some ⟨18,57,none⟩)])]:=by
 obtain⟨name,u,ty,e1,e2,e3,e4,e5⟩:=h _ (List.mem_singleton.2 rfl);have en:name=[101,114,114,111,114]:=(Option.some.inj e1).symm;subst en;obtain rfl:=Option.some.inj (Tryz.rt.symm.trans e2);have hm:ty∈(List.range 290).filter fun t=>prog.rowNamed t [101,114,114,111,114]:=List.mem_filter.2 ⟨List.mem_range.2 (by rw[<-Tryz.tsize];exact e3),e4⟩;rw[Tryz.oneRow]at hm;obtain rfl:=List.mem_singleton.1 hm;rw[Tryz.hand]at e5;exact e5
theorem cm(h:laidMet prog N0 W):17<W.heap.size:=by
 obtain⟨ps,⟨g0,t0,cs0,f0,p0,q0,hg0,ht0,hv0,_⟩,_⟩:=h.tail;have e:g0=17:=Option.some.inj (hg0.symm.trans (show prog.globalNamed "math/bits.deBruijn64tab" =some 17 by kernel_rfl));rw[<-e];exact Ur hg0 hv0
def Es(a0 a1 a2 a4 a5 a6 a7 a8 a9 a10 a11 a12 a13:Addr):Nat->Addr
 |0=>a0
 |1=>a1
 |2=>a2
 |4=>a4
 |5=>a5
 |6=>a6
 |7=>a7
 |8=>a8
 |9=>a9
 |10=>a10
 |11=>a11
 |12=>a12
 |13=>a13
 |_=>a0
theorem Xz(hk:laidMet prog N0 W/\handlesMet prog [("errors.errorType",Rows.laid_errors_errorType)] W):∃E:Nat->Addr,Vp W E/\W.var? prog "loop.example/g00272/impl.errWrong" =some #[.iface 259 (.pointer (some (E 0)))]/\W.var? prog "loop.example/g00272/impl.errForm" =some #[.iface 259 (.pointer (some (E 1)))]/\W.var? prog "loop.example/g00272/impl.errThread" =some #[.iface 259 (.pointer (some (E 2)))]/\W.var? prog "loop.example/g00272/impl.errMade" =some #[.iface 259 (.pointer (some (E 4)))]/\W.var? prog "loop.example/g00272/impl.errOwns" =some #[.iface 259 (.pointer (some (E 5)))]/\W.var? prog "loop.example/g00272/impl.errKind" =some #[.iface 259 (.pointer (some (E 6)))]/\W.var? prog "loop.example/g00272/impl.errChange" =some #[.iface 259 (.pointer (some (E 8)))]/\W.var? prog "loop.example/g00272/impl.errFlow" =some #[.iface 259 (.pointer (some (E 9)))]/\W.var? prog "loop.example/g00272/impl.errOwn" =some #[.iface 259 (.pointer (some (E 10)))]/\W.var? prog "loop.example/g00272/impl.errRoot" =some #[.iface 259 (.pointer (some (E 7)))]/\W.var? prog "loop.example/g00272/impl.errSee" =some #[.iface 259 (.pointer (some (E 11)))]/\W.var? prog "loop.example/g00272/impl.errItems" =some #[.iface 259 (.pointer (some (E 12)))]/\W.var? prog "loop.example/g00272/impl.errNone" =some #[.iface 259 (.pointer (some (E 13)))]:=by
 obtain⟨h,k⟩:=hk;have hh:=VJ k;have LT:=cm h;have hT:Q6 W:=Lib.tabIs_of_head Tryz.g14 Tryz.g14t underlying249 underlying172 (by kernel_rfl) Tryz.cells249 h.tail.tail;have t:=h.tail.tail.tail;obtain⟨a0,s0⟩:=LJ t bR cw;replace t:=t.tail;obtain⟨a1,s1⟩:=LJ t bL cE;replace t:=t.tail;obtain⟨a2,s2⟩:=LJ t bO cB;replace t:=t.tail;obtain⟨a6,s6⟩:=LJ t bW cD;replace t:=t.tail;obtain⟨a7,s7⟩:=LJ t bY cF;replace t:=t.tail;obtain⟨a11,s11⟩:=LJ t YP bI;replace t:=t.tail;obtain⟨a8,s8⟩:=LJ t bX cv;replace t:=t.tail;obtain⟨a9,s9⟩:=LJ t bU cy;replace t:=t.tail;obtain⟨a10,s10⟩:=LJ t Za bj;replace t:=t.tail;obtain⟨a4,s4⟩:=LJ t bV cz;replace t:=t.tail;obtain⟨a5,s5⟩:=LJ t bN cx;replace t:=t.tail;obtain⟨a12,s12⟩:=LJ t YJ aX;replace t:=t.tail;obtain⟨a13,s13⟩:=LJ t Zj bo;clear t h k;refine⟨Es a0 a1 a2 a4 a5 a6 a7 a8 a9 a10 a11 a12 a13,⟨fun i h1 h2=>?_,⟨fun i h1 h2 h3=>?_,fun i h1 h2=>?_,by simpa using World.var?_cell Tryz.et hh 0,LT⟩,hT⟩,s0.1,s1.1,s2.1,s4.1,s5.1,s6.1,s8.1,s9.1,s10.1,s7.1,s11.1,s12.1,s13.1⟩
 ·match i,h1,h2 with
  |0,_,_=>exact Gg bR s0
  |1,_,_=>exact Gg bL s1
  |2,_,_=>exact Gg bO s2
  |3,_,h=>exact absurd rfl h
  |4,_,_=>exact Gg bV s4
  |5,_,_=>exact Gg bN s5
  |6,_,_=>exact Gg bW s6
  |7,_,_=>exact Gg bY s7
  |8,_,_=>exact Gg bX s8
  |9,_,_=>exact Gg bU s9
  |10,_,_=>exact Gg Za s10
  |11,_,_=>exact Gg YP s11
  |12,_,_=>exact Gg YJ s12
  |13,_,_=>exact Gg Zj s13
  |i+14,h,_=>exact absurd h (by omega)
 ·match i,h1,h2,h3 with
  |0,_,_,h=>exact absurd rfl h
  |1,_,_,_=>exact Gy s1 s0 (by decide)
  |2,_,_,_=>exact Gy s2 s0 (by decide)
  |3,_,h,_=>exact absurd rfl h
  |4,_,_,_=>exact Gy s4 s0 (by decide)
  |5,_,_,_=>exact Gy s5 s0 (by decide)
  |6,_,_,_=>exact Gy s6 s0 (by decide)
  |7,_,_,_=>exact Gy s7 s0 (by decide)
  |8,_,_,_=>exact Gy s8 s0 (by decide)
  |9,_,_,_=>exact Gy s9 s0 (by decide)
  |10,_,_,_=>exact Gy s10 s0 (by decide)
  |11,_,_,_=>exact Gy s11 s0 (by decide)
  |12,_,_,_=>exact Gy s12 s0 (by decide)
  |13,_,_,_=>exact Gy s13 s0 (by decide)
  |i+14,h,_,_=>exact absurd h (by omega)
 ·match i,h1,h2 with
  |0,_,_=>exact s0.2.2
  |1,_,_=>exact s1.2.2
  |2,_,_=>exact s2.2.2
  |3,_,h=>exact absurd rfl h
  |4,_,_=>exact s4.2.2
  |5,_,_=>exact s5.2.2
  |6,_,_=>exact s6.2.2
  |7,_,_=>exact s7.2.2
  |8,_,_=>exact s8.2.2
  |9,_,_=>exact s9.2.2
  |10,_,_=>exact s10.2.2
  |11,_,_=>exact s11.2.2
  |12,_,_=>exact s12.2.2
  |13,_,_=>exact s13.2.2
  |i+14,h,_=>exact absurd h (by omega)
theorem Tryz.ownKnob:Go.ownKnob prog.godebug=none:=by kernel_rfl
theorem Tryz.laidOut:laidOutB prog=true:=by kernel_rfl
theorem Zn{w:World}{b o:Nat}{v:Value}(h:w.cell? ⟨b,o,none⟩=some v):b<w.heap.size:=by
 apply Nat.lt_of_not_le;intro hle;have:w.heap[b]? =none:=Array.getElem?_eq_none hle;simp[World.cell?,this]at h
theorem Tryz.cells5:prog.cellsOf 5=1:=by kernel_rfl
theorem QC{H:Type}{enc:TypeId×Value->H}{W:World}{base:Nat}{v1:Value}{d1:DataW H}{p1:List MemPlace}(hval:Value.okWide prog W .any base 22 v1)(h1:DataW.Trod enc prog W 0 (fun _=>true) true 22 v1 d1 p1):
 ∃a n cap,v1= .slice a n cap/\BytesAt W a n:=by
 obtain⟨a1,len,cap,rfl⟩:=okWide_slice underlying22 hval;obtain⟨fuel,hf⟩:=h1;rcases open_ints underlying22 underlying5 Tryz.cells5 hf with⟨hcs,hx⟩|⟨a,len',cap',zs,hcs,_,hl,hm,hz,hx,hcell,hwz⟩
 ·simp[Value.cells]at hcs;obtain⟨rfl,rfl,rfl⟩:=hcs;exact⟨none,0,0,rfl,fun h=>by omega⟩
 ·simp[Value.cells]at hcs;obtain⟨rfl,rfl,rfl⟩:=hcs;simp only[if_true]at hz;obtain⟨ab,ao,spot⟩:=a;refine⟨_,_,_,rfl,fun h0=>?_⟩;have hspot:spot=none:=by simpa[Addr.add]using World.cell?_spot (hcell 0 (by omega))
  subst hspot;have h00:=hcell 0 (by omega);rw[Addr.add_lit]at h00;refine⟨ab,ao,rfl,Zn h00,fun i hi=>?_⟩;have hi':=hcell i (by omega);rw[Addr.add_lit]at hi';have hb:=range_u8 hwz i;rw[List.getD_eq_getElem?_getD]at hi';exact⟨_,hi',hb.1,by omega⟩
end Go.Proofs.YteoihknaljgocaaGreatDoor
