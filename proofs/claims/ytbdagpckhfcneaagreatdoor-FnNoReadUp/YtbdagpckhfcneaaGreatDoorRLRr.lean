/- FnNoReadUp, the tied card: at every slice of bytes the law's call returns true, and the bytes and the listed variables read afterwards as before, where the listed tables, the thirteen errors and the handle read as their initialisers lay them. -/
import Derived.Test.YtbdagpckhfcneaaGreatDoorCards
import Derived.Test.YtbdagpckhfcneaaGreatDoorTie
import Derived.Test.YtbdagpckhfcneaaGreatDoorZ41r
import Derived.Test.YtbdagpckhfcneaaGreatDoorH1r
import Derived.Test.YtbdagpckhfcneaaGreatDoorH2r
import Derived.Test.YtbdagpckhfcneaaGreatDoorH3r
set_option maxRecDepth 100000
namespace Go.Proofs.YtbdagpckhfcneaaGreatDoor
open Go.ChangeShapes Go.WideShapes Go.ChangeAt Go.RowKit Go.Deep Go.Joins Go.Proofs.Tryz
variable {W:World}{H:Type}
def ci:List String:=["loop.example/g00272/impl.errWrong","loop.example/g00272/impl.errForm","loop.example/g00272/impl.errThread","loop.example/g00272/impl.errMade","loop.example/g00272/impl.errOwns","loop.example/g00272/impl.errKind","loop.example/g00272/impl.errChange","loop.example/g00272/impl.errFlow","loop.example/g00272/impl.errOwn","loop.example/g00272/impl.errRoot","loop.example/g00272/impl.errSee","loop.example/g00272/impl.errItems","loop.example/g00272/impl.errNone"]
theorem Sm:(Rows.fnNoReadUpRow.laid.filter fun x=>x.2.handleName?.isSome)=[("errors.errorType",Rows.laid_errors_errorType)]:=by kernel_rfl
theorem Rx:(Rows.fnNoReadUpRow.laid.filter fun x=>x.2.handleName?.isNone)=MO:=by kernel_rfl
theorem WA(h:laidMetH prog Rows.fnNoReadUpRow.laid W):laidMet prog MO W/\handlesMet prog [("errors.errorType",Rows.laid_errors_errorType)] W:=by
 unfold laidMetH at h;rw[Sm,Rx]at h;exact h
theorem Va(h:laidMet prog MO W)(k:handlesMet prog [("errors.errorType",Rows.laid_errors_errorType)] W):laidMetH prog Rows.fnNoReadUpRow.laid W:=by
 unfold laidMetH;rw[Sm,Rx];exact⟨h,k⟩
theorem C9{sp:Nat->Bool}(enc:TypeId×Value->H){n:String}{g:Nat}{a:Addr}{ns:List String}{gs:List (DataW H)}{q:List MemPlace}(hg:prog.globalNamed n=some g)(ht:(prog.globals[g]?).map (·.type)=some 62)(h:W.var? prog n=some #[.iface 264 (.pointer (some a))])(r:DataW.TrodVars enc prog W sp ns gs q):
 DataW.TrodVars enc prog W sp (n::ns) (tok enc (.iface 264 (.pointer (some a)))::gs) (.cell g 0::q):=⟨g,62,#[.iface 264 (.pointer (some a))],1,[],q,hg,ht,h,trod_held underlying62 (show IsIface (.iface 264 (.pointer (some a))) from trivial) 0,r,rfl⟩
theorem Rk{sp:Nat->Bool}(enc:TypeId×Value->H){E:Nat->Addr}(h0:W.var? prog "loop.example/g00272/impl.errWrong" =some #[.iface 264 (.pointer (some (E 0)))])(h1:W.var? prog "loop.example/g00272/impl.errForm" =some #[.iface 264 (.pointer (some (E 1)))])(h2:W.var? prog "loop.example/g00272/impl.errThread" =some #[.iface 264 (.pointer (some (E 2)))])(h4:W.var? prog "loop.example/g00272/impl.errMade" =some #[.iface 264 (.pointer (some (E 4)))])(h5:W.var? prog "loop.example/g00272/impl.errOwns" =some #[.iface 264 (.pointer (some (E 5)))])(h6:W.var? prog "loop.example/g00272/impl.errKind" =some #[.iface 264 (.pointer (some (E 6)))])(h8:W.var? prog "loop.example/g00272/impl.errChange" =some #[.iface 264 (.pointer (some (E 8)))])(h9:W.var? prog "loop.example/g00272/impl.errFlow" =some #[.iface 264 (.pointer (some (E 9)))])(h10:W.var? prog "loop.example/g00272/impl.errOwn" =some #[.iface 264 (.pointer (some (E 10)))])(h7:W.var? prog "loop.example/g00272/impl.errRoot" =some #[.iface 264 (.pointer (some (E 7)))])(h11:W.var? prog "loop.example/g00272/impl.errSee" =some #[.iface 264 (.pointer (some (E 11)))])(h12:W.var? prog "loop.example/g00272/impl.errItems" =some #[.iface 264 (.pointer (some (E 12)))])(h13:W.var? prog "loop.example/g00272/impl.errNone" =some #[.iface 264 (.pointer (some (E 13)))]):
 DataW.TrodVars enc prog W sp ci ([0,1,2,4,5,6,8,9,10,7,11,12,13].map fun i=>tok enc (.iface 264 (.pointer (some (E i))))) ([0,1,2,4,5,6,8,9,10,7,11,12,13].map fun i=> .cell i 0):=
 C9 enc bF bY h0<|C9 enc bD cm h1<|C9 enc bJ bX h2<|C9 enc bK cr h4<|C9 enc bM bW h5<|C9 enc bE cd h6<|C9 enc bz bZ h8<|C9 enc bw ct h9<|C9 enc Zc aT h10<|C9 enc bG bV h7<|C9 enc YD aS h11<|C9 enc YV aW h12<|C9 enc Yr bh h13<|rfl
def lv:DataW Unit->Value
 | .lit l=>l.value
 |_=> .nilIface
def tb:DataW Unit->Array Value
 | .agg l=>(l.map lv).toArray
 |_=>#[]
def tx:DataW Unit->Value
 | .iface _ (.ptr (.agg [d]))=>lv d
 |_=> .nilIface
def bj(h:Array Obj)(x:Nat×Array Value):Array Obj:=h.modify x.1 fun| .cells _ t f=> .cells x.2 t f|o=>o
def ups:List (Nat×Array Value):=[(0,#[.iface 264 (.pointer (some ⟨23,0,none⟩))]),(1,#[.iface 264 (.pointer (some ⟨24,0,none⟩))]),(2,#[.iface 264 (.pointer (some ⟨25,0,none⟩))]),(4,#[.iface 264 (.pointer (some ⟨26,0,none⟩))]),(5,#[.iface 264 (.pointer (some ⟨27,0,none⟩))]),(6,#[.iface 264 (.pointer (some ⟨28,0,none⟩))]),(7,#[.iface 264 (.pointer (some ⟨29,0,none⟩))]),(8,#[.iface 264 (.pointer (some ⟨30,0,none⟩))]),(9,#[.iface 264 (.pointer (some ⟨31,0,none⟩))]),(10,#[.iface 264 (.pointer (some ⟨32,0,none⟩))]),(11,#[.iface 264 (.pointer (some ⟨33,0,none⟩))]),(12,#[.iface 264 (.pointer (some ⟨34,0,none⟩))]),(13,#[.iface 264 (.pointer (some ⟨35,0,none⟩))]),(3,#[.iface 154 (.agg #[.pointer (some ⟨18,62,none⟩)])]),(14,tb Rows.laid_internal_strconv_uint64pow10),(16,tb Rows.laid_math_bits_deBruijn32tab),(17,tb Rows.laid_math_bits_deBruijn64tab)]
def UP:Array Obj:=#[.cells #[tx Rows.laid_loop_example_g00272_impl_errWrong] 283,.cells #[tx Rows.laid_loop_example_g00272_impl_errForm] 283,.cells #[tx Rows.laid_loop_example_g00272_impl_errThread] 283,.cells #[tx Rows.laid_loop_example_g00272_impl_errMade] 283,.cells #[tx Rows.laid_loop_example_g00272_impl_errOwns] 283,.cells #[tx Rows.laid_loop_example_g00272_impl_errKind] 283,.cells #[tx Rows.laid_loop_example_g00272_impl_errRoot] 283,.cells #[tx Rows.laid_loop_example_g00272_impl_errChange] 283,.cells #[tx Rows.laid_loop_example_g00272_impl_errFlow] 283,.cells #[tx Rows.laid_loop_example_g00272_impl_errOwn] 283,.cells #[tx Rows.laid_loop_example_g00272_impl_errSee] 283,.cells #[tx Rows.laid_loop_example_g00272_impl_errItems] 283,.cells #[tx Rows.laid_loop_example_g00272_impl_errNone] 283]
theorem XJ(os:Os)(args:Array Value):laidMetH prog Rows.fnNoReadUpRow.laid (({(World.holding prog os ⟨UP,#[],[]⟩)with heap:=ups.foldl bj (World.holding prog os ⟨UP,#[],[]⟩).heap}:World).forCall (fun _ _=>0) ⟨#[],args,[]⟩).memory:=
 Va (laidMet_of_run3 8 (by kernel_rfl) (by kernel_rfl) (by kernel_rfl)) (handlesMet_of_B (by kernel_rfl))
theorem Kt(os:Os)(started:os.Started)(H:Type)(enc:TypeId×Value->H):
 ReturnsInHanded {} Tryz.checked os 5 .any (fun w args=>(Rows.fnNoReadUpSpec.pre enc prog Tryz.f5 Rows.fnNoReadUpRow.domain false w args/\laidMetH prog Rows.fnNoReadUpRow.laid w)/\sizedMet enc prog Tryz.f5 (OpenSpec.ofChange Rows.fnNoReadUpSpec) false w args)
  (Rows.fnNoReadUpSpec.post enc prog Tryz.f5 false true false false):=by
 refine returnsInHanded_of_change_and (C:=Tryz.checked) (X:=fun w _=>laidMetH prog Rows.fnNoReadUpRow.laid w) (fun _ _ _ hh h=>h.of_heap hh) Tryz.ownKnob started (by kernel_rfl) func5
  (ChangeSpec.witness_at (enc:=enc) (C:=Tryz.checked) (os:=os) (X:=fun w _=>laidMetH prog Rows.fnNoReadUpRow.laid w) false ({(World.holding prog os ⟨UP,#[],[]⟩)with heap:=ups.foldl bj (World.holding prog os ⟨UP,#[],[]⟩).heap}:World) #[.slice none 0 0] 8 rfl (by kernel_rfl) (by kernel_rfl) (by kernel_rfl) (by kernel_rfl) (by kernel_rfl) (XJ os _)) ?_
 intro W base args ds gs before hval0 hW hcnd _ hL _;have hval:∀(j:Nat) t v,Tryz.f5.params[j]? =some t->args[j]? =some v->Value.okWide prog W .any base t v:=hval0;have hW':=hW;obtain⟨p,q,hA0,hV,rfl,hfz,hnd⟩:=hW;have hA:DataW.TrodAll enc prog W 0 (fun _=>true) true Tryz.f5.params.toList args.toList ds p:=hA0;rw[Tryz.params5]at hA hval;obtain⟨v0,vs0,d0,ds0,p0,q0,hargs,rfl,rfl,h0,r0⟩:=trodAll_cons hA;obtain⟨rfl,rfl,rfl⟩:=trodAll_nil r0;obtain rfl:args=#[v0]:=by cases args;simp_all
 have hV2:DataW.TrodVars enc prog W (fun _=>true) ci gs q:=hV;have k0:=h0;have Md:∀x∈p0,x.block<W.heap.size:=by obtain⟨m,hm⟩:=k0;exact DataW.trod_lt m _ _ _ hm
 obtain⟨a0,n0,c0,rfl,hc0⟩:=Qc (hval 0 22 v0 rfl rfl) h0;clear hA0 hval0;obtain⟨E,hv,e0,e1,e2,e4,e5,e6,e8,e9,e10,e7,e11,e12,e13⟩:=Wy (WA hL);obtain⟨rfl,rfl⟩:=hV2.unique (Rk enc e0 e1 e2 e4 e5 e6 e8 e9 e10 e7 e11 e12 e13);refine(Oz E a0 n0 c0 W (.inr hc0) hv).mono fun e W' ⟨he,bel⟩=>?_;subst he;exact⟨_,rfl,_,_,_,[],_,_,hW',trodAll_mk1 (shut_bool underlying4 _),trodAll_cons_mk (Below.trod Tryz.laidOut (by kernel_rfl) (of_decide_eq_true (by kernel_rfl)) k0 bel Md) trodAll_mk0,Rk enc (Dz bF e0 bel) (Dz bD e1 bel) (Dz bJ e2 bel) (Dz bK e4 bel) (Dz bM e5 bel) (Dz bE e6 bel) (Dz bz e8 bel) (Dz bw e9 bel) (Dz Zc e10 bel) (Dz bG e7 bel) (Dz YD e11 bel) (Dz YV e12 bel) (Dz Yr e13 bel),bel.frame _,fun h=>by cases h⟩
theorem Lm:joinedFacts prog 5 Tryz.f5 Rows.fnNoReadUpSpec Rows.fnNoReadUpRow=true:=by
 have e1:(Rows.fnNoReadUpRow.lifted==prog.liftsFinal)=true:=by rw[Tg];kernel_rfl
 have e2:(prog.make==some Rows.fnNoReadUpRow.make)=true:=Wl;unfold joinedFacts;rw[OJ,e1,e2];change _=true;kernel_rfl
theorem Lp:Rows.FnNoReadUpSaid:=
 OpenClaim.holds_of_wide 5 Tryz.f5 rfl rfl rfl rfl rfl rfl rfl ⟨rfl,rfl,rfl,rfl,rfl⟩ rfl rfl rfl rfl rfl (by kernel_rfl) func5 Lm
  (of_decide_eq_true (by kernel_rfl)) (by unfold Func.isWrapper;first|(rw[if_pos (by decide+kernel)];kernel_rfl)|(rw[if_neg (by decide+kernel)];exact⟨rfl,rfl⟩))
  (fun os started H enc _=>Kt os started H enc)
theorem fnNoReadUp_card:Rows.FnNoReadUpCardSaid:=
 Claim7.holds_tied_plain_at .later [] [.data,.data,.data,.handle,.sentinel,.sentinel,.sentinel,.sentinel,.sentinel,.sentinel,.sentinel,.sentinel,.sentinel,.sentinel,.sentinel,.sentinel,.sentinel] true (true,"4b5666e7aef0a5d60bfe5f3954a0b2f69d1d55e20fb91d06866251831f707f97") true
  Lp (fun _ h=>by cases h) (by kernel_rfl) (fun _ h=>by cases h) fnNoReadUp_row_tie rfl ⟨rfl,rfl⟩ (by kernel_rfl) rfl
  (fun f fn hf hfn=>by
    obtain rfl:f=5:=Option.some.inj ((show prog.funcNamed "loop.example/g00272/laws.FnNoReadUp" =some 5 by kernel_rfl).symm.trans hf) |>.symm;obtain rfl:fn=Tryz.f5:=(Option.some.inj (func5.symm.trans hfn)).symm;exact⟨by kernel_rfl,fun j t ht=>by
     rw[Tryz.params5]at ht;have h3:t=22:=by
      rcases j with _|j
      ·simpa using ht.symm
      ·simp at ht
     subst h3;exact(show prog.wantsStandIn 22=false by kernel_rfl)⟩)
  (by kernel_rfl)
end Go.Proofs.YtbdagpckhfcneaaGreatDoor
