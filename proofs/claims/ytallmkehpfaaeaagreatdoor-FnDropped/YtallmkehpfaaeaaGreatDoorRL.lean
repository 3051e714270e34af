/- FnDropped, the tied card: at every slice of bytes the law's call returns true, and the bytes and the listed variables read afterwards as before, where the listed tables, the thirteen errors and the handle read as their initialisers lay them. -/
import Derived.Test.YtallmkehpfaaeaaGreatDoorPW
import Derived.Test.YtallmkehpfaaeaaGreatDoorRP1
import Derived.Test.YtallmkehpfaaeaaGreatDoorRI2
import Derived.Test.YtallmkehpfaaeaaGreatDoorH1
import Derived.Test.YtallmkehpfaaeaaGreatDoorH2
import Derived.Test.YtallmkehpfaaeaaGreatDoorH3
import Derived.Test.YtallmkehpfaaeaaGreatDoorCards
import Derived.Test.YtallmkehpfaaeaaGreatDoorTie
set_option maxRecDepth 100000
namespace Go.Proofs.YtallmkehpfaaeaaGreatDoor
open Go.ChangeShapes Go.WideShapes Go.ChangeAt Go.RowKit Go.Deep Go.Joins
def nms:List String:=["loop.example/g00272/impl.errWrong","loop.example/g00272/impl.errForm","loop.example/g00272/impl.errThread","loop.example/g00272/impl.errMade","loop.example/g00272/impl.errOwns","loop.example/g00272/impl.errKind","loop.example/g00272/impl.errChange","loop.example/g00272/impl.errFlow","loop.example/g00272/impl.errOwn","loop.example/g00272/impl.errRoot","loop.example/g00272/impl.errSee","loop.example/g00272/impl.errItems","loop.example/g00272/impl.errNone"]
theorem flt_some:(Rows.fnDroppedRow.laid.filter fun x=>x.2.handleName?.isSome)=[("errors.errorType",Rows.laid_errors_errorType)]:=by kernel_rfl
theorem flt_none:(Rows.fnDroppedRow.laid.filter fun x=>x.2.handleName?.isNone)=laid16:=by kernel_rfl
theorem laid_two{W:World}(h:laidMetH Tryz.prog Rows.fnDroppedRow.laid W):laidMet Tryz.prog laid16 W∧handlesMet Tryz.prog [("errors.errorType",Rows.laid_errors_errorType)] W:=by
 unfold laidMetH at h;rw[flt_some,flt_none]at h;exact h
theorem laid_back{W:World}(h:laidMet Tryz.prog laid16 W)(k:handlesMet Tryz.prog [("errors.errorType",Rows.laid_errors_errorType)] W):laidMetH Tryz.prog Rows.fnDroppedRow.laid W:=by
 unfold laidMetH;rw[flt_some,flt_none];exact⟨h,k⟩
theorem vars_cons{H:Type}{sp:Nat→Bool}(enc:TypeId×Value→H){W:World}{n:String}{g:Nat}{a:Addr}{ns:List String}{gs:List (DataW H)}{q:List MemPlace}(hg:Tryz.prog.globalNamed n=some g)(ht:(Tryz.prog.globals[g]?).map (·.type)=some 62)(h:W.var? Tryz.prog n=some #[.iface 264 (.pointer (some a))])(r:DataW.TrodVars enc Tryz.prog W sp ns gs q):
 DataW.TrodVars enc Tryz.prog W sp (n::ns) (tok enc (.iface 264 (.pointer (some a)))::gs) (.cell g 0::q):=⟨g,62,#[.iface 264 (.pointer (some a))],1,[],q,hg,ht,h,trod_held Tryz.underlying62 (show IsIface (.iface 264 (.pointer (some a))) from trivial) 0,r,rfl⟩
theorem vars_all{H:Type}{sp:Nat→Bool}(enc:TypeId×Value→H){W:World}{E:Nat→Addr}(h0:W.var? Tryz.prog "loop.example/g00272/impl.errWrong" =some #[.iface 264 (.pointer (some (E 0)))])(h1:W.var? Tryz.prog "loop.example/g00272/impl.errForm" =some #[.iface 264 (.pointer (some (E 1)))])(h2:W.var? Tryz.prog "loop.example/g00272/impl.errThread" =some #[.iface 264 (.pointer (some (E 2)))])(h4:W.var? Tryz.prog "loop.example/g00272/impl.errMade" =some #[.iface 264 (.pointer (some (E 4)))])(h5:W.var? Tryz.prog "loop.example/g00272/impl.errOwns" =some #[.iface 264 (.pointer (some (E 5)))])(h6:W.var? Tryz.prog "loop.example/g00272/impl.errKind" =some #[.iface 264 (.pointer (some (E 6)))])(h8:W.var? Tryz.prog "loop.example/g00272/impl.errChange" =some #[.iface 264 (.pointer (some (E 8)))])(h9:W.var? Tryz.prog "loop.example/g00272/impl.errFlow" =some #[.iface 264 (.pointer (some (E 9)))])(h10:W.var? Tryz.prog "loop.example/g00272/impl.errOwn" =some #[.iface 264 (.pointer (some (E 10)))])(h7:W.var? Tryz.prog "loop.example/g00272/impl.errRoot" =some #[.iface 264 (.pointer (some (E 7)))])(h11:W.var? Tryz.prog "loop.example/g00272/impl.errSee" =some #[.iface 264 (.pointer (some (E 11)))])(h12:W.var? Tryz.prog "loop.example/g00272/impl.errItems" =some #[.iface 264 (.pointer (some (E 12)))])(h13:W.var? Tryz.prog "loop.example/g00272/impl.errNone" =some #[.iface 264 (.pointer (some (E 13)))]):
 DataW.TrodVars enc Tryz.prog W sp nms ([0,1,2,4,5,6,8,9,10,7,11,12,13].map fun i=>tok enc (.iface 264 (.pointer (some (E i))))) ([0,1,2,4,5,6,8,9,10,7,11,12,13].map fun i=> .cell i 0):=
 vars_cons enc eg0 et0 h0<|vars_cons enc eg1 et1 h1<|vars_cons enc eg2 et2 h2<|vars_cons enc eg4 et4 h4<|vars_cons enc eg5 et5 h5<|vars_cons enc eg6 et6 h6<|vars_cons enc eg8 et8 h8<|vars_cons enc eg9 et9 h9<|vars_cons enc eg10 et10 h10<|vars_cons enc eg7 et7 h7<|vars_cons enc eg11 et11 h11<|vars_cons enc eg12 et12 h12<|vars_cons enc eg13 et13 h13<|rfl
def lv:DataW Unit→Value
 | .lit l=>l.value
 |_=> .nilIface
def tb:DataW Unit→Array Value
 | .agg l=>(l.map lv).toArray
 |_=>#[]
def tx:DataW Unit→Value
 | .iface _ (.ptr (.agg [d]))=>lv d
 |_=> .nilIface
def setB(h:Array Obj)(x:Nat×Array Value):Array Obj:=h.modify x.1 fun| .cells _ t f=> .cells x.2 t f|o=>o
def ups:List (Nat×Array Value):=[(0,#[.iface 264 (.pointer (some ⟨23,0,none⟩))]),(1,#[.iface 264 (.pointer (some ⟨24,0,none⟩))]),(2,#[.iface 264 (.pointer (some ⟨25,0,none⟩))]),(4,#[.iface 264 (.pointer (some ⟨26,0,none⟩))]),(5,#[.iface 264 (.pointer (some ⟨27,0,none⟩))]),(6,#[.iface 264 (.pointer (some ⟨28,0,none⟩))]),(7,#[.iface 264 (.pointer (some ⟨29,0,none⟩))]),(8,#[.iface 264 (.pointer (some ⟨30,0,none⟩))]),(9,#[.iface 264 (.pointer (some ⟨31,0,none⟩))]),(10,#[.iface 264 (.pointer (some ⟨32,0,none⟩))]),(11,#[.iface 264 (.pointer (some ⟨33,0,none⟩))]),(12,#[.iface 264 (.pointer (some ⟨34,0,none⟩))]),(13,#[.iface 264 (.pointer (some ⟨35,0,none⟩))]),(3,#[.iface 156 (.agg #[.pointer (some ⟨18,62,none⟩)])]),(14,tb Rows.laid_internal_strconv_uint64pow10),(16,tb Rows.laid_math_bits_deBruijn32tab),(17,tb Rows.laid_math_bits_deBruijn64tab)]
def mem13:Array Obj:=#[.cells #[tx Rows.laid_loop_example_g00272_impl_errWrong] 283,.cells #[tx Rows.laid_loop_example_g00272_impl_errForm] 283,.cells #[tx Rows.laid_loop_example_g00272_impl_errThread] 283,.cells #[tx Rows.laid_loop_example_g00272_impl_errMade] 283,.cells #[tx Rows.laid_loop_example_g00272_impl_errOwns] 283,.cells #[tx Rows.laid_loop_example_g00272_impl_errKind] 283,.cells #[tx Rows.laid_loop_example_g00272_impl_errRoot] 283,.cells #[tx Rows.laid_loop_example_g00272_impl_errChange] 283,.cells #[tx Rows.laid_loop_example_g00272_impl_errFlow] 283,.cells #[tx Rows.laid_loop_example_g00272_impl_errOwn] 283,.cells #[tx Rows.laid_loop_example_g00272_impl_errSee] 283,.cells #[tx Rows.laid_loop_example_g00272_impl_errItems] 283,.cells #[tx Rows.laid_loop_example_g00272_impl_errNone] 283]
theorem laid_met(os:Os)(args:Array Value):laidMetH Tryz.prog Rows.fnDroppedRow.laid (({(World.holding Tryz.prog os ⟨mem13,#[],[]⟩)with heap:=ups.foldl setB (World.holding Tryz.prog os ⟨mem13,#[],[]⟩).heap}:World).forCall (fun _ _=>0) ⟨#[],args,[]⟩).memory:=
 laid_back (laidMet_of_run3 8 (by kernel_rfl) (by kernel_rfl) (by kernel_rfl)) (handlesMet_of_B (by kernel_rfl))
theorem fnDropped_lifted(os:Os)(started:os.Started)(H:Type)(enc:TypeId×Value→H):
 ReturnsInHanded {} Tryz.checked os 7 .any (fun w args=>(Rows.fnDroppedSpec.pre enc Tryz.prog Tryz.f7 Rows.fnDroppedRow.domain false w args∧laidMetH Tryz.prog Rows.fnDroppedRow.laid w)∧sizedMet enc Tryz.prog Tryz.f7 (OpenSpec.ofChange Rows.fnDroppedSpec) false w args)
  (Rows.fnDroppedSpec.post enc Tryz.prog Tryz.f7 false true false false):=by
 refine returnsInHanded_of_change_and (C:=Tryz.checked) (X:=fun w _=>laidMetH Tryz.prog Rows.fnDroppedRow.laid w) (fun _ _ _ hh h=>h.of_heap hh) Tryz.ownKnob started (by kernel_rfl) Tryz.func7
  (ChangeSpec.witness_at (enc:=enc) (C:=Tryz.checked) (os:=os) (X:=fun w _=>laidMetH Tryz.prog Rows.fnDroppedRow.laid w) false ({(World.holding Tryz.prog os ⟨mem13,#[],[]⟩)with heap:=ups.foldl setB (World.holding Tryz.prog os ⟨mem13,#[],[]⟩).heap}:World) #[.slice none 0 0] 8 rfl (by kernel_rfl) (by kernel_rfl) (by kernel_rfl) (by kernel_rfl) (by kernel_rfl) (laid_met os _)) ?_
 intro W base args ds gs before hval0 hW hcnd _ hL _;have hval:∀(j:Nat) t v,Tryz.f7.params[j]? =some t→args[j]? =some v→Value.okWide Tryz.prog W .any base t v:=hval0;have hW':=hW;obtain⟨p,q,hA0,hV,rfl,hfz,hnd⟩:=hW;have hA:DataW.TrodAll enc Tryz.prog W 0 (fun _=>true) true Tryz.f7.params.toList args.toList ds p:=hA0;rw[Tryz.params7]at hA hval;obtain⟨v0,vs0,d0,ds0,p0,q0,hargs,rfl,rfl,h0,r0⟩:=trodAll_cons hA;obtain⟨rfl,rfl,rfl⟩:=trodAll_nil r0;obtain rfl:args=#[v0]:=by cases args;simp_all
 have hV2:DataW.TrodVars enc Tryz.prog W (fun _=>true) nms gs q:=hV;have k0:=h0;have lt0:∀x∈p0,x.block<W.heap.size:=by obtain⟨m,hm⟩:=k0;exact DataW.trod_lt m _ _ _ hm
 obtain⟨a0,n0,c0,rfl,hc0⟩:=open_codeArg (hval 0 22 v0 rfl rfl) h0;clear hA0 hval0;obtain⟨E,hv,e0,e1,e2,e4,e5,e6,e8,e9,e10,e7,e11,e12,e13⟩:=laid_all (laid_two hL);obtain⟨rfl,rfl⟩:=hV2.unique (vars_all enc e0 e1 e2 e4 e5 e6 e8 e9 e10 e7 e11 e12 e13);refine(dropped_walk E a0 n0 c0 W (.inr hc0) hv).mono fun e W' ⟨he,bel⟩=>?_;subst he;exact⟨_,rfl,_,_,_,[],_,_,hW',trodAll_mk1 (shut_bool Tryz.underlying4 _),trodAll_cons_mk (Below.trod Tryz.laidOut (by kernel_rfl) (of_decide_eq_true (by kernel_rfl)) k0 bel lt0) trodAll_mk0,vars_all enc (var_kept eg0 e0 bel) (var_kept eg1 e1 bel) (var_kept eg2 e2 bel) (var_kept eg4 e4 bel) (var_kept eg5 e5 bel) (var_kept eg6 e6 bel) (var_kept eg8 e8 bel) (var_kept eg9 e9 bel) (var_kept eg10 e10 bel) (var_kept eg7 e7 bel) (var_kept eg11 e11 bel) (var_kept eg12 e12 bel) (var_kept eg13 e13 bel),bel.frame _,fun h=>by cases h⟩
theorem fnDropped_facts:joinedFacts Tryz.prog 7 Tryz.f7 Rows.fnDroppedSpec Rows.fnDroppedRow=true:=by
 have e1:(Rows.fnDroppedRow.lifted==Tryz.prog.liftsFinal)=true:=by rw[fact_lifts];kernel_rfl
 have e2:(Tryz.prog.make==some Rows.fnDroppedRow.make)=true:=fact_make;unfold joinedFacts;rw[fact_mayEnter,e1,e2];change _=true;kernel_rfl
theorem fnDropped_holds:Rows.FnDroppedSaid:=
 OpenClaim.holds_of_wide 7 Tryz.f7 rfl rfl rfl rfl rfl rfl rfl ⟨rfl,rfl,rfl,rfl,rfl⟩ rfl rfl rfl rfl rfl (by kernel_rfl) Tryz.func7 fnDropped_facts
  (of_decide_eq_true (by kernel_rfl)) (by unfold Func.isWrapper;first|(rw[if_pos (by decide+kernel)];kernel_rfl)|(rw[if_neg (by decide+kernel)];exact⟨rfl,rfl⟩))
  (fun os started H enc _=>fnDropped_lifted os started H enc)
theorem fnDropped_card:Rows.FnDroppedCardSaid:=
 Claim7.holds_tied_plain_at .later [] [.data,.data,.data,.handle,.sentinel,.sentinel,.sentinel,.sentinel,.sentinel,.sentinel,.sentinel,.sentinel,.sentinel,.sentinel,.sentinel,.sentinel,.sentinel] true (true,"86d000feb7600f70419abd5e5f4b5335f9ff77e1f7960bad2ab76369f966c88f") true
  fnDropped_holds (fun _ h=>by cases h) (by kernel_rfl) (fun _ h=>by cases h) fnDropped_row_tie rfl ⟨rfl,rfl⟩ (by kernel_rfl) rfl
  (fun f fn hf hfn=>by
    obtain rfl:f=7:=Option.some.inj ((show Tryz.prog.funcNamed "loop.example/g00272/laws.FnDropped" =some 7 by kernel_rfl).symm.trans hf) |>.symm;obtain rfl:fn=Tryz.f7:=(Option.some.inj (Tryz.func7.symm.trans hfn)).symm;exact⟨by kernel_rfl,fun j t ht=>by
     rw[Tryz.params7]at ht;have h3:t=22:=by
      rcases j with _|j
      ·simpa using ht.symm
      ·simp at ht
     subst h3;exact(show Tryz.prog.wantsStandIn 22=false by kernel_rfl)⟩)
  (by kernel_rfl)
end Go.Proofs.YtallmkehpfaaeaaGreatDoor
