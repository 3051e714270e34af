/- FnStepped, the tied card: at every slice of bytes the law's call returns true, and the bytes and the listed variables read afterwards as before, where the listed tables, the thirteen errors and the handle read as their initialisers lay them. -/
import Derived.Test.YtefoofaocbjdoaaGreatDoorCards
import Derived.Test.YtefoofaocbjdoaaGreatDoorTie
import Derived.Test.YtefoofaocbjdoaaGreatDoorZ40s
import Derived.Test.YtefoofaocbjdoaaGreatDoorZ41s
import Derived.Test.YtefoofaocbjdoaaGreatDoorH1s
import Derived.Test.YtefoofaocbjdoaaGreatDoorH2s
import Derived.Test.YtefoofaocbjdoaaGreatDoorH3s
set_option maxRecDepth 100000
namespace Go.Proofs.YtefoofaocbjdoaaGreatDoor
open Go.ChangeShapes Go.WideShapes Go.ChangeAt Go.RowKit Go.Deep Go.Joins Go.Proofs.Tryz
variable {W:World}{H:Type}
def de:List String:=["loop.example/g00272/impl.errWrong","loop.example/g00272/impl.errForm","loop.example/g00272/impl.errThread","loop.example/g00272/impl.errMade","loop.example/g00272/impl.errOwns","loop.example/g00272/impl.errKind","loop.example/g00272/impl.errChange","loop.example/g00272/impl.errFlow","loop.example/g00272/impl.errOwn","loop.example/g00272/impl.errRoot","loop.example/g00272/impl.errSee","loop.example/g00272/impl.errItems","loop.example/g00272/impl.errNone"]
theorem RH:(Rows.fnSteppedRow.laid.filter fun x=>x.2.handleName?.isSome)=[("errors.errorType",Rows.laid_errors_errorType)]:=by kernel_rfl
theorem Tm:(Rows.fnSteppedRow.laid.filter fun x=>x.2.handleName?.isNone)=Nr:=by kernel_rfl
theorem YE(h:laidMetH prog Rows.fnSteppedRow.laid W):laidMet prog Nr W/\handlesMet prog [("errors.errorType",Rows.laid_errors_errorType)] W:=by
 unfold laidMetH at h;rw[RH,Tm]at h;exact h
theorem Wg(h:laidMet prog Nr W)(k:handlesMet prog [("errors.errorType",Rows.laid_errors_errorType)] W):laidMetH prog Rows.fnSteppedRow.laid W:=by
 unfold laidMetH;rw[RH,Tm];exact⟨h,k⟩
theorem Di{sp:Nat->Bool}(enc:TypeId×Value->H){n:String}{g:Nat}{a:Addr}{ns:List String}{gs:List (DataW H)}{q:List MemPlace}(hg:prog.globalNamed n=some g)(ht:(prog.globals[g]?).map (·.type)=some 45)(h:W.var? prog n=some #[.iface 257 (.pointer (some a))])(r:DataW.TrodVars enc prog W sp ns gs q):
 DataW.TrodVars enc prog W sp (n::ns) (tok enc (.iface 257 (.pointer (some a)))::gs) (.cell g 0::q):=⟨g,45,#[.iface 257 (.pointer (some a))],1,[],q,hg,ht,h,trod_held underlying45 (show IsIface (.iface 257 (.pointer (some a))) from trivial) 0,r,rfl⟩
theorem Rv{sp:Nat->Bool}(enc:TypeId×Value->H){E:Nat->Addr}(h0:W.var? prog "loop.example/g00272/impl.errWrong" =some #[.iface 257 (.pointer (some (E 0)))])(h1:W.var? prog "loop.example/g00272/impl.errForm" =some #[.iface 257 (.pointer (some (E 1)))])(h2:W.var? prog "loop.example/g00272/impl.errThread" =some #[.iface 257 (.pointer (some (E 2)))])(h4:W.var? prog "loop.example/g00272/impl.errMade" =some #[.iface 257 (.pointer (some (E 4)))])(h5:W.var? prog "loop.example/g00272/impl.errOwns" =some #[.iface 257 (.pointer (some (E 5)))])(h6:W.var? prog "loop.example/g00272/impl.errKind" =some #[.iface 257 (.pointer (some (E 6)))])(h8:W.var? prog "loop.example/g00272/impl.errChange" =some #[.iface 257 (.pointer (some (E 8)))])(h9:W.var? prog "loop.example/g00272/impl.errFlow" =some #[.iface 257 (.pointer (some (E 9)))])(h10:W.var? prog "loop.example/g00272/impl.errOwn" =some #[.iface 257 (.pointer (some (E 10)))])(h7:W.var? prog "loop.example/g00272/impl.errRoot" =some #[.iface 257 (.pointer (some (E 7)))])(h11:W.var? prog "loop.example/g00272/impl.errSee" =some #[.iface 257 (.pointer (some (E 11)))])(h12:W.var? prog "loop.example/g00272/impl.errItems" =some #[.iface 257 (.pointer (some (E 12)))])(h13:W.var? prog "loop.example/g00272/impl.errNone" =some #[.iface 257 (.pointer (some (E 13)))]):
 DataW.TrodVars enc prog W sp de ([0,1,2,4,5,6,8,9,10,7,11,12,13].map fun i=>tok enc (.iface 257 (.pointer (some (E i))))) ([0,1,2,4,5,6,8,9,10,7,11,12,13].map fun i=> .cell i 0):=
 Di enc cI cX h0<|Di enc cE di h1<|Di enc cD cW h2<|Di enc cz db h4<|Di enc cN dh h5<|Di enc cB cZ h6<|Di enc cA dj h8<|Di enc cK df h9<|Di enc ZC bL h10<|Di enc cF cY h7<|Di enc YU ct h11<|Di enc Zj cm h12<|Di enc ZJ ch h13<|rfl
def lv:DataW Unit->Value
 | .lit l=>l.value
 |_=> .nilIface
def tb:DataW Unit->Array Value
 | .agg l=>(l.map lv).toArray
 |_=>#[]
def tx:DataW Unit->Value
 | .iface _ (.ptr (.agg [d]))=>lv d
 |_=> .nilIface
def cw(h:Array Obj)(x:Nat×Array Value):Array Obj:=h.modify x.1 fun| .cells _ t f=> .cells x.2 t f|o=>o
def ups:List (Nat×Array Value):=[(0,#[.iface 257 (.pointer (some ⟨23,0,none⟩))]),(1,#[.iface 257 (.pointer (some ⟨24,0,none⟩))]),(2,#[.iface 257 (.pointer (some ⟨25,0,none⟩))]),(4,#[.iface 257 (.pointer (some ⟨26,0,none⟩))]),(5,#[.iface 257 (.pointer (some ⟨27,0,none⟩))]),(6,#[.iface 257 (.pointer (some ⟨28,0,none⟩))]),(7,#[.iface 257 (.pointer (some ⟨29,0,none⟩))]),(8,#[.iface 257 (.pointer (some ⟨30,0,none⟩))]),(9,#[.iface 257 (.pointer (some ⟨31,0,none⟩))]),(10,#[.iface 257 (.pointer (some ⟨32,0,none⟩))]),(11,#[.iface 257 (.pointer (some ⟨33,0,none⟩))]),(12,#[.iface 257 (.pointer (some ⟨34,0,none⟩))]),(13,#[.iface 257 (.pointer (some ⟨35,0,none⟩))]),(3,#[.iface 130 (.agg #[.pointer (some ⟨18,45,none⟩)])]),(14,tb Rows.laid_internal_strconv_uint64pow10),(16,tb Rows.laid_math_bits_deBruijn32tab),(17,tb Rows.laid_math_bits_deBruijn64tab)]
def Vh:Array Obj:=#[.cells #[tx Rows.laid_loop_example_g00272_impl_errWrong] 276,.cells #[tx Rows.laid_loop_example_g00272_impl_errForm] 276,.cells #[tx Rows.laid_loop_example_g00272_impl_errThread] 276,.cells #[tx Rows.laid_loop_example_g00272_impl_errMade] 276,.cells #[tx Rows.laid_loop_example_g00272_impl_errOwns] 276,.cells #[tx Rows.laid_loop_example_g00272_impl_errKind] 276,.cells #[tx Rows.laid_loop_example_g00272_impl_errRoot] 276,.cells #[tx Rows.laid_loop_example_g00272_impl_errChange] 276,.cells #[tx Rows.laid_loop_example_g00272_impl_errFlow] 276,.cells #[tx Rows.laid_loop_example_g00272_impl_errOwn] 276,.cells #[tx Rows.laid_loop_example_g00272_impl_errSee] 276,.cells #[tx Rows.laid_loop_example_g00272_impl_errItems] 276,.cells #[tx Rows.laid_loop_example_g00272_impl_errNone] 276]
theorem XR(os:Os)(args:Array Value):laidMetH prog Rows.fnSteppedRow.laid (({(World.holding prog os ⟨Vh,#[],[]⟩)with heap:=ups.foldl cw (World.holding prog os ⟨Vh,#[],[]⟩).heap}:World).forCall (fun _ _=>0) ⟨#[],args,[]⟩).memory:=
 Wg (laidMet_of_run3 8 (by kernel_rfl) (by kernel_rfl) (by kernel_rfl)) (handlesMet_of_B (by kernel_rfl))
theorem Lg(os:Os)(started:os.Started)(H:Type)(enc:TypeId×Value->H):
 ReturnsInHanded {} Tryz.checked os 3 .any (fun w args=>(Rows.fnSteppedSpec.pre enc prog Tryz.f3 Rows.fnSteppedRow.domain false w args/\laidMetH prog Rows.fnSteppedRow.laid w)/\sizedMet enc prog Tryz.f3 (OpenSpec.ofChange Rows.fnSteppedSpec) false w args)
  (Rows.fnSteppedSpec.post enc prog Tryz.f3 false true false false):=by
 refine returnsInHanded_of_change_and (C:=Tryz.checked) (X:=fun w _=>laidMetH prog Rows.fnSteppedRow.laid w) (fun _ _ _ hh h=>h.of_heap hh) Tryz.ownKnob started (by kernel_rfl) func3
  (ChangeSpec.witness_at (enc:=enc) (C:=Tryz.checked) (os:=os) (X:=fun w _=>laidMetH prog Rows.fnSteppedRow.laid w) false ({(World.holding prog os ⟨Vh,#[],[]⟩)with heap:=ups.foldl cw (World.holding prog os ⟨Vh,#[],[]⟩).heap}:World) #[.slice none 0 0] 8 rfl (by kernel_rfl) (by kernel_rfl) (by kernel_rfl) (by kernel_rfl) (by kernel_rfl) (XR os _)) ?_
 intro W base args ds gs before hval0 hW hcnd _ hL _;have hval:∀(j:Nat) t v,Tryz.f3.params[j]? =some t->args[j]? =some v->Value.okWide prog W .any base t v:=hval0;have hW':=hW;obtain⟨p,q,hA0,hV,rfl,hfz,hnd⟩:=hW;have hA:DataW.TrodAll enc prog W 0 (fun _=>true) true Tryz.f3.params.toList args.toList ds p:=hA0;rw[Tryz.params3]at hA hval;obtain⟨v0,vs0,d0,ds0,p0,q0,hargs,rfl,rfl,h0,r0⟩:=trodAll_cons hA;obtain⟨rfl,rfl,rfl⟩:=trodAll_nil r0;obtain rfl:args=#[v0]:=by cases args;simp_all
 have hV2:DataW.TrodVars enc prog W (fun _=>true) de gs q:=hV;have k0:=h0;have Jw:∀x∈p0,x.block<W.heap.size:=by obtain⟨m,hm⟩:=k0;exact DataW.trod_lt m _ _ _ hm
 obtain⟨a0,n0,c0,rfl,hc0⟩:=Rj (hval 0 22 v0 rfl rfl) h0;clear hA0 hval0;obtain⟨E,hv,e0,e1,e2,e4,e5,e6,e8,e9,e10,e7,e11,e12,e13⟩:=YL (YE hL);obtain⟨rfl,rfl⟩:=hV2.unique (Rv enc e0 e1 e2 e4 e5 e6 e8 e9 e10 e7 e11 e12 e13);refine(QR E a0 n0 c0 W (.inr hc0) hv).mono fun e W' ⟨he,bel⟩=>?_;subst he;exact⟨_,rfl,_,_,_,[],_,_,hW',trodAll_mk1 (shut_bool underlying4 _),trodAll_cons_mk (Below.trod Tryz.laidOut (by kernel_rfl) (of_decide_eq_true (by kernel_rfl)) k0 bel Jw) trodAll_mk0,Rv enc (Dx cI e0 bel) (Dx cE e1 bel) (Dx cD e2 bel) (Dx cz e4 bel) (Dx cN e5 bel) (Dx cB e6 bel) (Dx cA e8 bel) (Dx cK e9 bel) (Dx ZC e10 bel) (Dx cF e7 bel) (Dx YU e11 bel) (Dx Zj e12 bel) (Dx ZJ e13 bel),bel.frame _,fun h=>by cases h⟩
theorem MA:joinedFacts prog 3 Tryz.f3 Rows.fnSteppedSpec Rows.fnSteppedRow=true:=by
 have e1:(Rows.fnSteppedRow.lifted==prog.liftsFinal)=true:=by rw[UF];kernel_rfl
 have e2:(prog.make==some Rows.fnSteppedRow.make)=true:=WM;unfold joinedFacts;rw[OZ,e1,e2];change _=true;kernel_rfl
theorem MR:Rows.FnSteppedSaid:=
 OpenClaim.holds_of_wide 3 Tryz.f3 rfl rfl rfl rfl rfl rfl rfl ⟨rfl,rfl,rfl,rfl,rfl⟩ rfl rfl rfl rfl rfl (by kernel_rfl) func3 MA
  (of_decide_eq_true (by kernel_rfl)) (by unfold Func.isWrapper;first|(rw[if_pos (by decide+kernel)];kernel_rfl)|(rw[if_neg (by decide+kernel)];exact⟨rfl,rfl⟩))
  (fun os started H enc _=>Lg os started H enc)
theorem fnStepped_card:Rows.FnSteppedCardSaid:=
 Claim7.holds_tied_plain_at .later [] [.data,.data,.data,.handle,.sentinel,.sentinel,.sentinel,.sentinel,.sentinel,.sentinel,.sentinel,.sentinel,.sentinel,.sentinel,.sentinel,.sentinel,.sentinel] true (true,"e272d5cedc1e373d9ac485fa59bda6fa46dff34056a17a4195821e0d19a63347") true
  MR (fun _ h=>by cases h) (by kernel_rfl) (fun _ h=>by cases h) fnStepped_row_tie rfl ⟨rfl,rfl⟩ (by kernel_rfl) rfl
  (fun f fn hf hfn=>by
    obtain rfl:f=3:=Option.some.inj ((show prog.funcNamed "loop.example/g00272/laws.FnStepped" =some 3 by kernel_rfl).symm.trans hf) |>.symm;obtain rfl:fn=Tryz.f3:=(Option.some.inj (func3.symm.trans hfn)).symm;exact⟨by kernel_rfl,fun j t ht=>by
     rw[Tryz.params3]at ht;have h3:t=22:=by
      rcases j with _|j
      ·simpa using ht.symm
      ·simp at ht
     subst h3;exact(show prog.wantsStandIn 22=false by kernel_rfl)⟩)
  (by kernel_rfl)
end Go.Proofs.YtefoofaocbjdoaaGreatDoor
