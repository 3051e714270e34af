import Derived.Test.YtallmkehpfaaeaaGreatDoorZ41
import Derived.Test.YtallmkehpfaaeaaGreatDoorRows
import Derived.ChangeSame
import Derived.ChangeVars
import Derived.JoinedOf
import Derived.LaidLaws
import Derived.LaidHandle
import Derived.Stop.LaidErr
import Derived.Lib.LaidTab
import Derived.Deep.DeepLaidRun
import Derived.SevenTiedAt
import Derived.Lib.SmallJoins
set_option maxRecDepth 100000
namespace Go.Proofs.YtallmkehpfaaeaaGreatDoor
open Go.ChangeShapes Go.WideShapes Go.ChangeAt Go.RowKit Go.Deep Go.Joins
theorem Tryz.cells9:Tryz.prog.cellsOf 9=1:=by kernel_rfl
theorem err_cells:Tryz.prog.cellsOf 283=1:=by kernel_rfl
theorem err_star: "*" ++ "errors.errorString" = "*errors.errorString" :=by decide
theorem err_row(u:TypeId)(h:Tryz.prog.typeName? 3 u=some "*errors.errorString"):u=264:=
 typeName_ptr_named (nm:= "errors.errorString") (by rw[err_star];kernel_rfl) (by kernel_rfl) (by decide) u (by rw[err_star];exact h)
def Snt(W:World)(n:String)(text:List UInt8)(a:Addr):Prop:=W.var? Tryz.prog n=some #[.iface 264 (.pointer (some a))]∧(∃s:ByteArray,W.cell? a=some (.string s)∧s.data.toList=text)∧∃ca ta,W.heap[a.block]? =some (.cells ca ta (0,0))
theorem sent{n:String}{text:List UInt8}{r:List (String×DataW Unit)}{W:World}{g:Nat}(h:laidMet Tryz.prog ((n,.iface "*errors.errorString" (.ptr (.agg [.lit (.string text)])))::r) W)(hg:Tryz.prog.globalNamed n=some g)(ht:(Tryz.prog.globals[g]?).map (·.type)=some 62):∃a,Snt W n text a:=by
 obtain⟨ps,⟨g0,t0,cs0,f0,p0,q0,hg0,ht0,hv0,hd0,_,e0⟩,_,hrows⟩:=h;obtain rfl:=Option.some.inj (hg.symm.trans hg0);obtain rfl:=Option.some.inj (ht.symm.trans ht0);subst e0;obtain⟨l0⟩:=cs0;have ok0:∀u v,l0=[.iface u v]→Value.okWide Tryz.prog W .any 0 u v:=fun u v e=>by
  subst e;exact(hrows g 0 (by simp[MemPlace.row])).2 u v (by simpa using World.var?_cell hg0 hv0 0)
 obtain⟨a0,s0,rfl,hc0,hs0,hz0,rfl⟩:=errorString_of_trod Tryz.underlying62 err_row Tryz.underlying264 Tryz.underlying283 rfl rfl Tryz.underlying9 err_cells Tryz.cells9 hd0 ok0;exact⟨a0,hv0,⟨s0,hc0,hs0⟩,(hrows a0.block a0.off (by simp[MemPlace.row])).1⟩
theorem snt_ne{W:World}{n m:String}{x y:List UInt8}{a b:Addr}(h:Snt W n x a)(k:Snt W m y b)(d:x≠y):a≠b:=fun e=>by
 obtain⟨s,h1,h2⟩:=h.2.1;obtain⟨t,k1,k2⟩:=k.2.1;subst e;rw[h1]at k1;cases k1;exact d (h2.symm.trans k2)
theorem var_lt{W:World}{n:String}{g:Nat}{cs:Array Value}(hg:Tryz.prog.globalNamed n=some g)(h:W.var? Tryz.prog n=some cs):g<W.heap.size:=by
 by_cases e:g<W.heap.size
 ·exact e
 ·simp only[World.var?,hg,Option.bind_some]at h;rw[Array.getElem?_eq_none (by omega)]at h;cases h
theorem var_kept{W W':World}{n:String}{g:Nat}{cs:Array Value}(hg:Tryz.prog.globalNamed n=some g)(h:W.var? Tryz.prog n=some cs)(bel:Below W.heap.size W W'):W'.var? Tryz.prog n=some cs:=by
 have h0:=var_lt hg h;unfold World.var? at h ⊢;simp only[hg,Option.bind_some]at h ⊢;rw[bel.block g h0];exact h
theorem snt_at{W:World}{n:String}{x:List UInt8}{a:Addr}{g:Nat}(hg:Tryz.prog.globalNamed n=some g)(h:Snt W n x a):W.cell? ⟨g,0,none⟩=some (.iface 264 (.pointer (some a)))∧g<W.heap.size:=⟨by simpa using World.var?_cell hg h.1 0,var_lt hg h.1⟩
theorem eg0:Tryz.prog.globalNamed "loop.example/g00272/impl.errWrong" =some 0:=by kernel_rfl
theorem et0:(Tryz.prog.globals[0]?).map (·.type)=some 62:=by kernel_rfl
theorem eg1:Tryz.prog.globalNamed "loop.example/g00272/impl.errForm" =some 1:=by kernel_rfl
theorem et1:(Tryz.prog.globals[1]?).map (·.type)=some 62:=by kernel_rfl
theorem eg2:Tryz.prog.globalNamed "loop.example/g00272/impl.errThread" =some 2:=by kernel_rfl
theorem et2:(Tryz.prog.globals[2]?).map (·.type)=some 62:=by kernel_rfl
theorem eg4:Tryz.prog.globalNamed "loop.example/g00272/impl.errMade" =some 4:=by kernel_rfl
theorem et4:(Tryz.prog.globals[4]?).map (·.type)=some 62:=by kernel_rfl
theorem eg5:Tryz.prog.globalNamed "loop.example/g00272/impl.errOwns" =some 5:=by kernel_rfl
theorem et5:(Tryz.prog.globals[5]?).map (·.type)=some 62:=by kernel_rfl
theorem eg6:Tryz.prog.globalNamed "loop.example/g00272/impl.errKind" =some 6:=by kernel_rfl
theorem et6:(Tryz.prog.globals[6]?).map (·.type)=some 62:=by kernel_rfl
theorem eg7:Tryz.prog.globalNamed "loop.example/g00272/impl.errRoot" =some 7:=by kernel_rfl
theorem et7:(Tryz.prog.globals[7]?).map (·.type)=some 62:=by kernel_rfl
theorem eg8:Tryz.prog.globalNamed "loop.example/g00272/impl.errChange" =some 8:=by kernel_rfl
theorem et8:(Tryz.prog.globals[8]?).map (·.type)=some 62:=by kernel_rfl
theorem eg9:Tryz.prog.globalNamed "loop.example/g00272/impl.errFlow" =some 9:=by kernel_rfl
theorem et9:(Tryz.prog.globals[9]?).map (·.type)=some 62:=by kernel_rfl
theorem eg10:Tryz.prog.globalNamed "loop.example/g00272/impl.errOwn" =some 10:=by kernel_rfl
theorem et10:(Tryz.prog.globals[10]?).map (·.type)=some 62:=by kernel_rfl
theorem eg11:Tryz.prog.globalNamed "loop.example/g00272/impl.errSee" =some 11:=by kernel_rfl
theorem et11:(Tryz.prog.globals[11]?).map (·.type)=some 62:=by kernel_rfl
theorem eg12:Tryz.prog.globalNamed "loop.example/g00272/impl.errItems" =some 12:=by kernel_rfl
theorem et12:(Tryz.prog.globals[12]?).map (·.type)=some 62:=by kernel_rfl
theorem eg13:Tryz.prog.globalNamed "loop.example/g00272/impl.errNone" =some 13:=by kernel_rfl
theorem et13:(Tryz.prog.globals[13]?).map (·.type)=some 62:=by kernel_rfl
def laid16:List (String×DataW Unit):=[("math/bits.deBruijn32tab",Rows.laid_math_bits_deBruijn32tab),("math/bits.deBruijn64tab",Rows.laid_math_bits_deBruijn64tab),("internal/strconv.uint64pow10",Lib.tabData .u64 Lib.pow10Tab),("loop.example/g00272/impl.errWrong",Rows.laid_loop_example_g00272_impl_errWrong),("loop.example/g00272/impl.errForm",Rows.laid_loop_example_g00272_impl_errForm),("loop.example/g00272/impl.errThread",Rows.laid_loop_example_g00272_impl_errThread),("loop.example/g00272/impl.errKind",Rows.laid_loop_example_g00272_impl_errKind),("loop.example/g00272/impl.errRoot",Rows.laid_loop_example_g00272_impl_errRoot),("loop.example/g00272/impl.errSee",Rows.laid_loop_example_g00272_impl_errSee),("loop.example/g00272/impl.errChange",Rows.laid_loop_example_g00272_impl_errChange),("loop.example/g00272/impl.errFlow",Rows.laid_loop_example_g00272_impl_errFlow),("loop.example/g00272/impl.errOwn",Rows.laid_loop_example_g00272_impl_errOwn),("loop.example/g00272/impl.errMade",Rows.laid_loop_example_g00272_impl_errMade),("loop.example/g00272/impl.errOwns",Rows.laid_loop_example_g00272_impl_errOwns),("loop.example/g00272/impl.errItems",Rows.laid_loop_example_g00272_impl_errItems),("loop.example/g00272/impl.errNone",Rows.laid_loop_example_g00272_impl_errNone)]
theorem Tryz.g14:Tryz.prog.globalNamed "internal/strconv.uint64pow10" =some 14:=by kernel_rfl
theorem Tryz.g14t:(Tryz.prog.globals[14]?).map (·.type)=some 257:=by kernel_rfl
theorem Tryz.cells257:Tryz.prog.cellsOf 257=20:=by kernel_rfl
theorem Tryz.et:Tryz.prog.globalNamed "errors.errorType" =some 3:=by kernel_rfl
theorem Tryz.rt:(Tryz.prog.cutTypes.find? (·.1== "internal/reflectlite.rtype")).map (·.2)=some 156:=by kernel_rfl
theorem Tryz.oneRow:((List.range 295).filter fun t=>Tryz.prog.rowNamed t [101,114,114,111,114])=[62]:=by kernel_rfl
theorem Tryz.tsize:Tryz.prog.types.size=295:=by kernel_rfl
theorem Tryz.hand:typeHandle Tryz.prog 62= .pointer (some ⟨18,62,none⟩):=by kernel_rfl
theorem handle_of{W:World}(h:handlesMet Tryz.prog [("errors.errorType",Rows.laid_errors_errorType)] W):W.var? Tryz.prog "errors.errorType" =some #[.iface 156 (.agg #[.pointer (some ⟨18,62,none⟩)])]:=by
 obtain⟨name,u,ty,e1,e2,e3,e4,e5⟩:=h _ (List.mem_singleton.2 rfl);have en:name=[101,114,114,111,114]:=(Option.some.inj e1).symm;subst en;obtain rfl:=Option.some.inj (Tryz.rt.symm.trans e2);have hm:ty∈(List.range 295).filter fun t=>Tryz.prog.rowNamed t [101,114,114,111,114]:=List.mem_filter.2 ⟨List.mem_range.2 (by rw[←Tryz.tsize];exact e3),e4⟩;rw[Tryz.oneRow]at hm;obtain rfl:=List.mem_singleton.1 hm;rw[Tryz.hand]at e5;exact e5
theorem lt17{W:World}(h:laidMet Tryz.prog laid16 W):17<W.heap.size:=by
 obtain⟨ps,⟨g0,t0,cs0,f0,p0,q0,hg0,ht0,hv0,_⟩,_⟩:=h.tail;have e:g0=17:=Option.some.inj (hg0.symm.trans (show Tryz.prog.globalNamed "math/bits.deBruijn64tab" =some 17 by kernel_rfl));rw[←e];exact var_lt hg0 hv0
def Es(a0 a1 a2 a4 a5 a6 a7 a8 a9 a10 a11 a12 a13:Addr):Nat→Addr
 |0=>a0
 |1=>a1
 |2=>a2
 |4=>a4
 |5=>a5
 |6=>a6
 |7=>a7
 |8=>a8
 |9=>a9
 |10=>a10
 |11=>a11
 |12=>a12
 |13=>a13
 |_=>a0
theorem laid_all{W:World}(hk:laidMet Tryz.prog laid16 W∧handlesMet Tryz.prog [("errors.errorType",Rows.laid_errors_errorType)] W):∃E:Nat→Addr,Vars W E∧W.var? Tryz.prog "loop.example/g00272/impl.errWrong" =some #[.iface 264 (.pointer (some (E 0)))]∧W.var? Tryz.prog "loop.example/g00272/impl.errForm" =some #[.iface 264 (.pointer (some (E 1)))]∧W.var? Tryz.prog "loop.example/g00272/impl.errThread" =some #[.iface 264 (.pointer (some (E 2)))]∧W.var? Tryz.prog "loop.example/g00272/impl.errMade" =some #[.iface 264 (.pointer (some (E 4)))]∧W.var? Tryz.prog "loop.example/g00272/impl.errOwns" =some #[.iface 264 (.pointer (some (E 5)))]∧W.var? Tryz.prog "loop.example/g00272/impl.errKind" =some #[.iface 264 (.pointer (some (E 6)))]∧W.var? Tryz.prog "loop.example/g00272/impl.errChange" =some #[.iface 264 (.pointer (some (E 8)))]∧W.var? Tryz.prog "loop.example/g00272/impl.errFlow" =some #[.iface 264 (.pointer (some (E 9)))]∧W.var? Tryz.prog "loop.example/g00272/impl.errOwn" =some #[.iface 264 (.pointer (some (E 10)))]∧W.var? Tryz.prog "loop.example/g00272/impl.errRoot" =some #[.iface 264 (.pointer (some (E 7)))]∧W.var? Tryz.prog "loop.example/g00272/impl.errSee" =some #[.iface 264 (.pointer (some (E 11)))]∧W.var? Tryz.prog "loop.example/g00272/impl.errItems" =some #[.iface 264 (.pointer (some (E 12)))]∧W.var? Tryz.prog "loop.example/g00272/impl.errNone" =some #[.iface 264 (.pointer (some (E 13)))]:=by
 obtain⟨h,k⟩:=hk;have hh:=handle_of k;have LT:=lt17 h;have hT:Tab W:=Lib.tabIs_of_head Tryz.g14 Tryz.g14t Tryz.underlying257 Tryz.underlying183 (by kernel_rfl) Tryz.cells257 h.tail.tail;have t:=h.tail.tail.tail;obtain⟨a0,s0⟩:=sent t eg0 et0;replace t:=t.tail;obtain⟨a1,s1⟩:=sent t eg1 et1;replace t:=t.tail;obtain⟨a2,s2⟩:=sent t eg2 et2;replace t:=t.tail;obtain⟨a6,s6⟩:=sent t eg6 et6;replace t:=t.tail;obtain⟨a7,s7⟩:=sent t eg7 et7;replace t:=t.tail;obtain⟨a11,s11⟩:=sent t eg11 et11;replace t:=t.tail;obtain⟨a8,s8⟩:=sent t eg8 et8;replace t:=t.tail;obtain⟨a9,s9⟩:=sent t eg9 et9;replace t:=t.tail;obtain⟨a10,s10⟩:=sent t eg10 et10;replace t:=t.tail;obtain⟨a4,s4⟩:=sent t eg4 et4;replace t:=t.tail;obtain⟨a5,s5⟩:=sent t eg5 et5;replace t:=t.tail;obtain⟨a12,s12⟩:=sent t eg12 et12;replace t:=t.tail;obtain⟨a13,s13⟩:=sent t eg13 et13;clear t h k;refine⟨Es a0 a1 a2 a4 a5 a6 a7 a8 a9 a10 a11 a12 a13,⟨fun i h1 h2=>?_,⟨fun i h1 h2 h3=>?_,fun i h1 h2=>?_,by simpa using World.var?_cell Tryz.et hh 0,LT⟩,hT⟩,s0.1,s1.1,s2.1,s4.1,s5.1,s6.1,s8.1,s9.1,s10.1,s7.1,s11.1,s12.1,s13.1⟩
 ·match i,h1,h2 with
  |0,_,_=>exact snt_at eg0 s0
  |1,_,_=>exact snt_at eg1 s1
  |2,_,_=>exact snt_at eg2 s2
  |3,_,h=>exact absurd rfl h
  |4,_,_=>exact snt_at eg4 s4
  |5,_,_=>exact snt_at eg5 s5
  |6,_,_=>exact snt_at eg6 s6
  |7,_,_=>exact snt_at eg7 s7
  |8,_,_=>exact snt_at eg8 s8
  |9,_,_=>exact snt_at eg9 s9
  |10,_,_=>exact snt_at eg10 s10
  |11,_,_=>exact snt_at eg11 s11
  |12,_,_=>exact snt_at eg12 s12
  |13,_,_=>exact snt_at eg13 s13
  |i+14,h,_=>exact absurd h (by omega)
 ·match i,h1,h2,h3 with
  |0,_,_,h=>exact absurd rfl h
  |1,_,_,_=>exact snt_ne s1 s0 (by decide)
  |2,_,_,_=>exact snt_ne s2 s0 (by decide)
  |3,_,h,_=>exact absurd rfl h
  |4,_,_,_=>exact snt_ne s4 s0 (by decide)
  |5,_,_,_=>exact snt_ne s5 s0 (by decide)
  |6,_,_,_=>exact snt_ne s6 s0 (by decide)
  |7,_,_,_=>exact snt_ne s7 s0 (by decide)
  |8,_,_,_=>exact snt_ne s8 s0 (by decide)
  |9,_,_,_=>exact snt_ne s9 s0 (by decide)
  |10,_,_,_=>exact snt_ne s10 s0 (by decide)
  |11,_,_,_=>exact snt_ne s11 s0 (by decide)
  |12,_,_,_=>exact snt_ne s12 s0 (by decide)
  |13,_,_,_=>exact snt_ne s13 s0 (by decide)
  |i+14,h,_,_=>exact absurd h (by omega)
 ·match i,h1,h2 with
  |0,_,_=>exact s0.2.2
  |1,_,_=>exact s1.2.2
  |2,_,_=>exact s2.2.2
  |3,_,h=>exact absurd rfl h
  |4,_,_=>exact s4.2.2
  |5,_,_=>exact s5.2.2
  |6,_,_=>exact s6.2.2
  |7,_,_=>exact s7.2.2
  |8,_,_=>exact s8.2.2
  |9,_,_=>exact s9.2.2
  |10,_,_=>exact s10.2.2
  |11,_,_=>exact s11.2.2
  |12,_,_=>exact s12.2.2
  |13,_,_=>exact s13.2.2
  |i+14,h,_=>exact absurd h (by omega)
end Go.Proofs.YtallmkehpfaaeaaGreatDoor
