/- FnQueued, the tied card: at every slice of bytes the law's call returns true, and the bytes and the listed variables read afterwards as before, where the listed tables, the thirteen errors and the handle read as their initialisers lay them. -/
import Derived.Test.YtphddbnadcjhgaaGreatDoorZ41
import Derived.Test.YtphddbnadcjhgaaGreatDoorH1
import Derived.Test.YtphddbnadcjhgaaGreatDoorH2
import Derived.Test.YtphddbnadcjhgaaGreatDoorH3
import Derived.Test.YtphddbnadcjhgaaGreatDoorCards
import Derived.Test.YtphddbnadcjhgaaGreatDoorTie
set_option maxRecDepth 100000
namespace Go.Proofs.YtphddbnadcjhgaaGreatDoor
open Go.ChangeShapes Go.WideShapes Go.ChangeAt Go.RowKit Go.Deep Go.Joins Go.Proofs.Tryz
def aU:List String:=["loop.example/g00272/impl.errWrong","loop.example/g00272/impl.errForm","loop.example/g00272/impl.errThread","loop.example/g00272/impl.errMade","loop.example/g00272/impl.errOwns","loop.example/g00272/impl.errKind","loop.example/g00272/impl.errChange","loop.example/g00272/impl.errFlow","loop.example/g00272/impl.errOwn","loop.example/g00272/impl.errRoot","loop.example/g00272/impl.errSee","loop.example/g00272/impl.errItems","loop.example/g00272/impl.errNone"]
theorem Q0:(Rows.fnQueuedRow.laid.filter fun x=>x.2.handleName?.isSome)=[("errors.errorType",Rows.laid_errors_errorType)]:=by kernel_rfl
theorem Rs:(Rows.fnQueuedRow.laid.filter fun x=>x.2.handleName?.isNone)=Nr:=by kernel_rfl
theorem Xs{W:World}(h:laidMetH prog Rows.fnQueuedRow.laid W):laidMet prog Nr W/\handlesMet prog [("errors.errorType",Rows.laid_errors_errorType)] W:=by
 unfold laidMetH at h;rw[Q0,Rs]at h;exact h
theorem UF{W:World}(h:laidMet prog Nr W)(k:handlesMet prog [("errors.errorType",Rows.laid_errors_errorType)] W):laidMetH prog Rows.fnQueuedRow.laid W:=by
 unfold laidMetH;rw[Q0,Rs];exact⟨h,k⟩
theorem CG{H:Type}{sp:Nat->Bool}(enc:TypeId×Value->H){W:World}{n:String}{g:Nat}{a:Addr}{ns:List String}{gs:List (DataW H)}{q:List MemPlace}(hg:prog.globalNamed n=some g)(ht:(prog.globals[g]?).map (·.type)=some 49)(h:W.var? prog n=some #[.iface 259 (.pointer (some a))])(r:DataW.TrodVars enc prog W sp ns gs q):
 DataW.TrodVars enc prog W sp (n::ns) (tok enc (.iface 259 (.pointer (some a)))::gs) (.cell g 0::q):=⟨g,49,#[.iface 259 (.pointer (some a))],1,[],q,hg,ht,h,trod_held underlying49 (show IsIface (.iface 259 (.pointer (some a))) from trivial) 0,r,rfl⟩
theorem Rn{H:Type}{sp:Nat->Bool}(enc:TypeId×Value->H){W:World}{E:Nat->Addr}(h0:W.var? prog "loop.example/g00272/impl.errWrong" =some #[.iface 259 (.pointer (some (E 0)))])(h1:W.var? prog "loop.example/g00272/impl.errForm" =some #[.iface 259 (.pointer (some (E 1)))])(h2:W.var? prog "loop.example/g00272/impl.errThread" =some #[.iface 259 (.pointer (some (E 2)))])(h4:W.var? prog "loop.example/g00272/impl.errMade" =some #[.iface 259 (.pointer (some (E 4)))])(h5:W.var? prog "loop.example/g00272/impl.errOwns" =some #[.iface 259 (.pointer (some (E 5)))])(h6:W.var? prog "loop.example/g00272/impl.errKind" =some #[.iface 259 (.pointer (some (E 6)))])(h8:W.var? prog "loop.example/g00272/impl.errChange" =some #[.iface 259 (.pointer (some (E 8)))])(h9:W.var? prog "loop.example/g00272/impl.errFlow" =some #[.iface 259 (.pointer (some (E 9)))])(h10:W.var? prog "loop.example/g00272/impl.errOwn" =some #[.iface 259 (.pointer (some (E 10)))])(h7:W.var? prog "loop.example/g00272/impl.errRoot" =some #[.iface 259 (.pointer (some (E 7)))])(h11:W.var? prog "loop.example/g00272/impl.errSee" =some #[.iface 259 (.pointer (some (E 11)))])(h12:W.var? prog "loop.example/g00272/impl.errItems" =some #[.iface 259 (.pointer (some (E 12)))])(h13:W.var? prog "loop.example/g00272/impl.errNone" =some #[.iface 259 (.pointer (some (E 13)))]):
 DataW.TrodVars enc prog W sp aU ([0,1,2,4,5,6,8,9,10,7,11,12,13].map fun i=>tok enc (.iface 259 (.pointer (some (E i))))) ([0,1,2,4,5,6,8,9,10,7,11,12,13].map fun i=> .cell i 0):=
 CG enc aB aZ h0<|CG enc aG aT h1<|CG enc aL aV h2<|CG enc aH aW h4<|CG enc aC aR h5<|CG enc aF aX h6<|CG enc aI aS h8<|CG enc aK aY h9<|CG enc Yi Z9 h10<|CG enc aJ bf h7<|CG enc Yw ZT h11<|CG enc YB aj h12<|CG enc Yx av h13<|rfl
def lv:DataW Unit->Value
 | .lit l=>l.value
 |_=> .nilIface
def tb:DataW Unit->Array Value
 | .agg l=>(l.map lv).toArray
 |_=>#[]
def tx:DataW Unit->Value
 | .iface _ (.ptr (.agg [d]))=>lv d
 |_=> .nilIface
def aw(h:Array Obj)(x:Nat×Array Value):Array Obj:=h.modify x.1 fun| .cells _ t f=> .cells x.2 t f|o=>o
def ups:List (Nat×Array Value):=[(0,#[.iface 259 (.pointer (some ⟨23,0,none⟩))]),(1,#[.iface 259 (.pointer (some ⟨24,0,none⟩))]),(2,#[.iface 259 (.pointer (some ⟨25,0,none⟩))]),(4,#[.iface 259 (.pointer (some ⟨26,0,none⟩))]),(5,#[.iface 259 (.pointer (some ⟨27,0,none⟩))]),(6,#[.iface 259 (.pointer (some ⟨28,0,none⟩))]),(7,#[.iface 259 (.pointer (some ⟨29,0,none⟩))]),(8,#[.iface 259 (.pointer (some ⟨30,0,none⟩))]),(9,#[.iface 259 (.pointer (some ⟨31,0,none⟩))]),(10,#[.iface 259 (.pointer (some ⟨32,0,none⟩))]),(11,#[.iface 259 (.pointer (some ⟨33,0,none⟩))]),(12,#[.iface 259 (.pointer (some ⟨34,0,none⟩))]),(13,#[.iface 259 (.pointer (some ⟨35,0,none⟩))]),(3,#[.iface 132 (.agg #[.pointer (some ⟨18,49,none⟩)])]),(14,tb Rows.laid_internal_strconv_uint64pow10),(16,tb Rows.laid_math_bits_deBruijn32tab),(17,tb Rows.laid_math_bits_deBruijn64tab)]
def Un:Array Obj:=#[.cells #[tx Rows.laid_loop_example_g00272_impl_errWrong] 278,.cells #[tx Rows.laid_loop_example_g00272_impl_errForm] 278,.cells #[tx Rows.laid_loop_example_g00272_impl_errThread] 278,.cells #[tx Rows.laid_loop_example_g00272_impl_errMade] 278,.cells #[tx Rows.laid_loop_example_g00272_impl_errOwns] 278,.cells #[tx Rows.laid_loop_example_g00272_impl_errKind] 278,.cells #[tx Rows.laid_loop_example_g00272_impl_errRoot] 278,.cells #[tx Rows.laid_loop_example_g00272_impl_errChange] 278,.cells #[tx Rows.laid_loop_example_g00272_impl_errFlow] 278,.cells #[tx Rows.laid_loop_example_g00272_impl_errOwn] 278,.cells #[tx Rows.laid_loop_example_g00272_impl_errSee] 278,.cells #[tx Rows.laid_loop_example_g00272_impl_errItems] 278,.cells #[tx Rows.laid_loop_example_g00272_impl_errNone] 278]
theorem XL(os:Os)(args:Array Value):laidMetH prog Rows.fnQueuedRow.laid (({(World.holding prog os ⟨Un,#[],[]⟩)with heap:=ups.foldl aw (World.holding prog os ⟨Un,#[],[]⟩).heap}:World).forCall (fun _ _=>0) ⟨#[],args,[]⟩).memory:=
 UF (laidMet_of_run3 8 (by kernel_rfl) (by kernel_rfl) (by kernel_rfl)) (handlesMet_of_B (by kernel_rfl))
theorem Lx(os:Os)(started:os.Started)(H:Type)(enc:TypeId×Value->H):
 ReturnsInHanded {} Tryz.checked os 3 .any (fun w args=>(Rows.fnQueuedSpec.pre enc prog Tryz.f3 Rows.fnQueuedRow.domain false w args/\laidMetH prog Rows.fnQueuedRow.laid w)/\sizedMet enc prog Tryz.f3 (OpenSpec.ofChange Rows.fnQueuedSpec) false w args)
  (Rows.fnQueuedSpec.post enc prog Tryz.f3 false true false false):=by
 refine returnsInHanded_of_change_and (C:=Tryz.checked) (X:=fun w _=>laidMetH prog Rows.fnQueuedRow.laid w) (fun _ _ _ hh h=>h.of_heap hh) Tryz.ownKnob started (by kernel_rfl) func3
  (ChangeSpec.witness_at (enc:=enc) (C:=Tryz.checked) (os:=os) (X:=fun w _=>laidMetH prog Rows.fnQueuedRow.laid w) false ({(World.holding prog os ⟨Un,#[],[]⟩)with heap:=ups.foldl aw (World.holding prog os ⟨Un,#[],[]⟩).heap}:World) #[.slice none 0 0] 8 rfl (by kernel_rfl) (by kernel_rfl) (by kernel_rfl) (by kernel_rfl) (by kernel_rfl) (XL os _)) ?_
 intro W base args ds gs before hval0 hW hcnd _ hL _;have hval:∀(j:Nat) t v,Tryz.f3.params[j]? =some t->args[j]? =some v->Value.okWide prog W .any base t v:=hval0;have hW':=hW;obtain⟨p,q,hA0,hV,rfl,hfz,hnd⟩:=hW;have hA:DataW.TrodAll enc prog W 0 (fun _=>true) true Tryz.f3.params.toList args.toList ds p:=hA0;rw[Tryz.params3]at hA hval;obtain⟨v0,vs0,d0,ds0,p0,q0,hargs,rfl,rfl,h0,r0⟩:=trodAll_cons hA;obtain⟨rfl,rfl,rfl⟩:=trodAll_nil r0;obtain rfl:args=#[v0]:=by cases args;simp_all
 have hV2:DataW.TrodVars enc prog W (fun _=>true) aU gs q:=hV;have k0:=h0;have H9:∀x∈p0,x.block<W.heap.size:=by obtain⟨m,hm⟩:=k0;exact DataW.trod_lt m _ _ _ hm
 obtain⟨a0,n0,c0,rfl,hc0⟩:=Qb (hval 0 22 v0 rfl rfl) h0;clear hA0 hval0;obtain⟨E,hv,e0,e1,e2,e4,e5,e6,e8,e9,e10,e7,e11,e12,e13⟩:=XB (Xs hL);obtain⟨rfl,rfl⟩:=hV2.unique (Rn enc e0 e1 e2 e4 e5 e6 e8 e9 e10 e7 e11 e12 e13);refine(Q3 E a0 n0 c0 W (.inr hc0) hv).mono fun e W' ⟨he,bel⟩=>?_;subst he;exact⟨_,rfl,_,_,_,[],_,_,hW',trodAll_mk1 (shut_bool underlying4 _),trodAll_cons_mk (Below.trod Tryz.laidOut (by kernel_rfl) (of_decide_eq_true (by kernel_rfl)) k0 bel H9) trodAll_mk0,Rn enc (Dn aB e0 bel) (Dn aG e1 bel) (Dn aL e2 bel) (Dn aH e4 bel) (Dn aC e5 bel) (Dn aF e6 bel) (Dn aI e8 bel) (Dn aK e9 bel) (Dn Yi e10 bel) (Dn aJ e7 bel) (Dn Yw e11 bel) (Dn YB e12 bel) (Dn Yx e13 bel),bel.frame _,fun h=>by cases h⟩
theorem Np:joinedFacts prog 3 Tryz.f3 Rows.fnQueuedSpec Rows.fnQueuedRow=true:=by
 have e1:(Rows.fnQueuedRow.lifted==prog.liftsFinal)=true:=by rw[Sq];kernel_rfl
 have e2:(prog.make==some Rows.fnQueuedRow.make)=true:=Ux;unfold joinedFacts;rw[N6,e1,e2];change _=true;kernel_rfl
theorem Mo:Rows.FnQueuedSaid:=
 OpenClaim.holds_of_wide 3 Tryz.f3 rfl rfl rfl rfl rfl rfl rfl ⟨rfl,rfl,rfl,rfl,rfl⟩ rfl rfl rfl rfl rfl (by kernel_rfl) func3 Np
  (of_decide_eq_true (by kernel_rfl)) (by unfold Func.isWrapper;first|(rw[if_pos (by decide+kernel)];kernel_rfl)|(rw[if_neg (by decide+kernel)];exact⟨rfl,rfl⟩))
  (fun os started H enc _=>Lx os started H enc)
theorem fnQueued_card:Rows.FnQueuedCardSaid:=
 Claim7.holds_tied_plain_at .later [] [.data,.data,.data,.handle,.sentinel,.sentinel,.sentinel,.sentinel,.sentinel,.sentinel,.sentinel,.sentinel,.sentinel,.sentinel,.sentinel,.sentinel,.sentinel] true (true,"34699bf398277071919e6839ab50369eb659a6241c2f2139c4b88f78fdd140b4") true
  Mo (fun _ h=>by cases h) (by kernel_rfl) (fun _ h=>by cases h) fnQueued_row_tie rfl ⟨rfl,rfl⟩ (by kernel_rfl) rfl
  (fun f fn hf hfn=>by
    obtain rfl:f=3:=Option.some.inj ((show prog.funcNamed "loop.example/g00272/laws.FnQueued" =some 3 by kernel_rfl).symm.trans hf) |>.symm;obtain rfl:fn=Tryz.f3:=(Option.some.inj (func3.symm.trans hfn)).symm;exact⟨by kernel_rfl,fun j t ht=>by
     rw[Tryz.params3]at ht;have h3:t=22:=by
      rcases j with _|j
      ·simpa using ht.symm
      ·simp at ht
     subst h3;exact(show prog.wantsStandIn 22=false by kernel_rfl)⟩)
  (by kernel_rfl)
end Go.Proofs.YtphddbnadcjhgaaGreatDoor
