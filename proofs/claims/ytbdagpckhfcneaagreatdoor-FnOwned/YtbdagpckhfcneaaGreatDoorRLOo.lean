/- FnOwned, the tied card: at every slice of bytes the law's call returns true, and the bytes and the listed variables read afterwards as before, where the listed tables, the thirteen errors and the handle read as their initialisers lay them. -/
import Derived.Test.YtbdagpckhfcneaaGreatDoorCards
import Derived.Test.YtbdagpckhfcneaaGreatDoorTie
import Derived.Test.YtbdagpckhfcneaaGreatDoorPO1o
import Derived.Test.YtbdagpckhfcneaaGreatDoorZ41o
import Derived.Test.YtbdagpckhfcneaaGreatDoorH1o
import Derived.Test.YtbdagpckhfcneaaGreatDoorH2o
import Derived.Test.YtbdagpckhfcneaaGreatDoorH3o
set_option maxRecDepth 100000
namespace Go.Proofs.YtbdagpckhfcneaaGreatDoor
open Go.ChangeShapes Go.WideShapes Go.ChangeAt Go.RowKit Go.Deep Go.Joins Go.Proofs.Tryz
variable {W:World}{H:Type}
def cy:List String:=["loop.example/g00272/impl.errWrong","loop.example/g00272/impl.errForm","loop.example/g00272/impl.errThread","loop.example/g00272/impl.errMade","loop.example/g00272/impl.errOwns","loop.example/g00272/impl.errKind","loop.example/g00272/impl.errChange","loop.example/g00272/impl.errFlow","loop.example/g00272/impl.errOwn","loop.example/g00272/impl.errRoot","loop.example/g00272/impl.errSee","loop.example/g00272/impl.errItems","loop.example/g00272/impl.errNone"]
theorem S9:(Rows.fnOwnedRow.laid.filter fun x=>x.2.handleName?.isSome)=[("errors.errorType",Rows.laid_errors_errorType)]:=by kernel_rfl
theorem SC:(Rows.fnOwnedRow.laid.filter fun x=>x.2.handleName?.isNone)=NM:=by kernel_rfl
theorem XW(h:laidMetH prog Rows.fnOwnedRow.laid W):laidMet prog NM W/\handlesMet prog [("errors.errorType",Rows.laid_errors_errorType)] W:=by
 unfold laidMetH at h;rw[S9,SC]at h;exact h
theorem VD(h:laidMet prog NM W)(k:handlesMet prog [("errors.errorType",Rows.laid_errors_errorType)] W):laidMetH prog Rows.fnOwnedRow.laid W:=by
 unfold laidMetH;rw[S9,SC];exact⟨h,k⟩
theorem De{sp:Nat->Bool}(enc:TypeId×Value->H){n:String}{g:Nat}{a:Addr}{ns:List String}{gs:List (DataW H)}{q:List MemPlace}(hg:prog.globalNamed n=some g)(ht:(prog.globals[g]?).map (·.type)=some 62)(h:W.var? prog n=some #[.iface 264 (.pointer (some a))])(r:DataW.TrodVars enc prog W sp ns gs q):
 DataW.TrodVars enc prog W sp (n::ns) (tok enc (.iface 264 (.pointer (some a)))::gs) (.cell g 0::q):=⟨g,62,#[.iface 264 (.pointer (some a))],1,[],q,hg,ht,h,trod_held underlying62 (show IsIface (.iface 264 (.pointer (some a))) from trivial) 0,r,rfl⟩
theorem S6{sp:Nat->Bool}(enc:TypeId×Value->H){E:Nat->Addr}(h0:W.var? prog "loop.example/g00272/impl.errWrong" =some #[.iface 264 (.pointer (some (E 0)))])(h1:W.var? prog "loop.example/g00272/impl.errForm" =some #[.iface 264 (.pointer (some (E 1)))])(h2:W.var? prog "loop.example/g00272/impl.errThread" =some #[.iface 264 (.pointer (some (E 2)))])(h4:W.var? prog "loop.example/g00272/impl.errMade" =some #[.iface 264 (.pointer (some (E 4)))])(h5:W.var? prog "loop.example/g00272/impl.errOwns" =some #[.iface 264 (.pointer (some (E 5)))])(h6:W.var? prog "loop.example/g00272/impl.errKind" =some #[.iface 264 (.pointer (some (E 6)))])(h8:W.var? prog "loop.example/g00272/impl.errChange" =some #[.iface 264 (.pointer (some (E 8)))])(h9:W.var? prog "loop.example/g00272/impl.errFlow" =some #[.iface 264 (.pointer (some (E 9)))])(h10:W.var? prog "loop.example/g00272/impl.errOwn" =some #[.iface 264 (.pointer (some (E 10)))])(h7:W.var? prog "loop.example/g00272/impl.errRoot" =some #[.iface 264 (.pointer (some (E 7)))])(h11:W.var? prog "loop.example/g00272/impl.errSee" =some #[.iface 264 (.pointer (some (E 11)))])(h12:W.var? prog "loop.example/g00272/impl.errItems" =some #[.iface 264 (.pointer (some (E 12)))])(h13:W.var? prog "loop.example/g00272/impl.errNone" =some #[.iface 264 (.pointer (some (E 13)))]):
 DataW.TrodVars enc prog W sp cy ([0,1,2,4,5,6,8,9,10,7,11,12,13].map fun i=>tok enc (.iface 264 (.pointer (some (E i))))) ([0,1,2,4,5,6,8,9,10,7,11,12,13].map fun i=> .cell i 0):=
 De enc bR cm h0<|De enc bE cr h1<|De enc bL cd h2<|De enc bJ ci h4<|De enc bH cx h5<|De enc bO bZ h6<|De enc bM ct h8<|De enc bF cw h9<|De enc Zf bv h10<|De enc bK cv h7<|De enc Y8 aR h11<|De enc YE aU h12<|De enc Zh aQ h13<|rfl
def lv:DataW Unit->Value
 | .lit l=>l.value
 |_=> .nilIface
def tb:DataW Unit->Array Value
 | .agg l=>(l.map lv).toArray
 |_=>#[]
def tx:DataW Unit->Value
 | .iface _ (.ptr (.agg [d]))=>lv d
 |_=> .nilIface
def bh(h:Array Obj)(x:Nat×Array Value):Array Obj:=h.modify x.1 fun| .cells _ t f=> .cells x.2 t f|o=>o
def ups:List (Nat×Array Value):=[(0,#[.iface 264 (.pointer (some ⟨23,0,none⟩))]),(1,#[.iface 264 (.pointer (some ⟨24,0,none⟩))]),(2,#[.iface 264 (.pointer (some ⟨25,0,none⟩))]),(4,#[.iface 264 (.pointer (some ⟨26,0,none⟩))]),(5,#[.iface 264 (.pointer (some ⟨27,0,none⟩))]),(6,#[.iface 264 (.pointer (some ⟨28,0,none⟩))]),(7,#[.iface 264 (.pointer (some ⟨29,0,none⟩))]),(8,#[.iface 264 (.pointer (some ⟨30,0,none⟩))]),(9,#[.iface 264 (.pointer (some ⟨31,0,none⟩))]),(10,#[.iface 264 (.pointer (some ⟨32,0,none⟩))]),(11,#[.iface 264 (.pointer (some ⟨33,0,none⟩))]),(12,#[.iface 264 (.pointer (some ⟨34,0,none⟩))]),(13,#[.iface 264 (.pointer (some ⟨35,0,none⟩))]),(3,#[.iface 154 (.agg #[.pointer (some ⟨18,62,none⟩)])]),(14,tb Rows.laid_internal_strconv_uint64pow10),(16,tb Rows.laid_math_bits_deBruijn32tab),(17,tb Rows.laid_math_bits_deBruijn64tab)]
def US:Array Obj:=#[.cells #[tx Rows.laid_loop_example_g00272_impl_errWrong] 283,.cells #[tx Rows.laid_loop_example_g00272_impl_errForm] 283,.cells #[tx Rows.laid_loop_example_g00272_impl_errThread] 283,.cells #[tx Rows.laid_loop_example_g00272_impl_errMade] 283,.cells #[tx Rows.laid_loop_example_g00272_impl_errOwns] 283,.cells #[tx Rows.laid_loop_example_g00272_impl_errKind] 283,.cells #[tx Rows.laid_loop_example_g00272_impl_errRoot] 283,.cells #[tx Rows.laid_loop_example_g00272_impl_errChange] 283,.cells #[tx Rows.laid_loop_example_g00272_impl_errFlow] 283,.cells #[tx Rows.laid_loop_example_g00272_impl_errOwn] 283,.cells #[tx Rows.laid_loop_example_g00272_impl_errSee] 283,.cells #[tx Rows.laid_loop_example_g00272_impl_errItems] 283,.cells #[tx Rows.laid_loop_example_g00272_impl_errNone] 283]
theorem Xv(os:Os)(args:Array Value):laidMetH prog Rows.fnOwnedRow.laid (({(World.holding prog os ⟨US,#[],[]⟩)with heap:=ups.foldl bh (World.holding prog os ⟨US,#[],[]⟩).heap}:World).forCall (fun _ _=>0) ⟨#[],args,[]⟩).memory:=
 VD (laidMet_of_run3 8 (by kernel_rfl) (by kernel_rfl) (by kernel_rfl)) (handlesMet_of_B (by kernel_rfl))
theorem MZ(os:Os)(started:os.Started)(H:Type)(enc:TypeId×Value->H):
 ReturnsInHanded {} Tryz.checked os 6 .any (fun w args=>(Rows.fnOwnedSpec.pre enc prog Tryz.f6 Rows.fnOwnedRow.domain false w args/\laidMetH prog Rows.fnOwnedRow.laid w)/\sizedMet enc prog Tryz.f6 (OpenSpec.ofChange Rows.fnOwnedSpec) false w args)
  (Rows.fnOwnedSpec.post enc prog Tryz.f6 false true false false):=by
 refine returnsInHanded_of_change_and (C:=Tryz.checked) (X:=fun w _=>laidMetH prog Rows.fnOwnedRow.laid w) (fun _ _ _ hh h=>h.of_heap hh) Tryz.ownKnob started (by kernel_rfl) func6
  (ChangeSpec.witness_at (enc:=enc) (C:=Tryz.checked) (os:=os) (X:=fun w _=>laidMetH prog Rows.fnOwnedRow.laid w) false ({(World.holding prog os ⟨US,#[],[]⟩)with heap:=ups.foldl bh (World.holding prog os ⟨US,#[],[]⟩).heap}:World) #[.slice none 0 0] 8 rfl (by kernel_rfl) (by kernel_rfl) (by kernel_rfl) (by kernel_rfl) (by kernel_rfl) (Xv os _)) ?_
 intro W base args ds gs before hval0 hW hcnd _ hL _;have hval:∀(j:Nat) t v,Tryz.f6.params[j]? =some t->args[j]? =some v->Value.okWide prog W .any base t v:=hval0;have hW':=hW;obtain⟨p,q,hA0,hV,rfl,hfz,hnd⟩:=hW;have hA:DataW.TrodAll enc prog W 0 (fun _=>true) true Tryz.f6.params.toList args.toList ds p:=hA0;rw[Tryz.params6]at hA hval;obtain⟨v0,vs0,d0,ds0,p0,q0,hargs,rfl,rfl,h0,r0⟩:=trodAll_cons hA;obtain⟨rfl,rfl,rfl⟩:=trodAll_nil r0;obtain rfl:args=#[v0]:=by cases args;simp_all
 have hV2:DataW.TrodVars enc prog W (fun _=>true) cy gs q:=hV;have k0:=h0;have LG:∀x∈p0,x.block<W.heap.size:=by obtain⟨m,hm⟩:=k0;exact DataW.trod_lt m _ _ _ hm
 obtain⟨a0,n0,c0,rfl,hc0⟩:=QJ (hval 0 22 v0 rfl rfl) h0;clear hA0 hval0;obtain⟨E,hv,e0,e1,e2,e4,e5,e6,e8,e9,e10,e7,e11,e12,e13⟩:=XS (XW hL);obtain⟨rfl,rfl⟩:=hV2.unique (S6 enc e0 e1 e2 e4 e5 e6 e8 e9 e10 e7 e11 e12 e13);refine(Uo E a0 n0 c0 W (.inr hc0) hv).mono fun e W' ⟨he,bel⟩=>?_;subst he;exact⟨_,rfl,_,_,_,[],_,_,hW',trodAll_mk1 (shut_bool underlying4 _),trodAll_cons_mk (Below.trod Tryz.laidOut (by kernel_rfl) (of_decide_eq_true (by kernel_rfl)) k0 bel LG) trodAll_mk0,S6 enc (Dx bR e0 bel) (Dx bE e1 bel) (Dx bL e2 bel) (Dx bJ e4 bel) (Dx bH e5 bel) (Dx bO e6 bel) (Dx bM e8 bel) (Dx bF e9 bel) (Dx Zf e10 bel) (Dx bK e7 bel) (Dx Y8 e11 bel) (Dx YE e12 bel) (Dx Zh e13 bel),bel.frame _,fun h=>by cases h⟩
theorem Oq:joinedFacts prog 6 Tryz.f6 Rows.fnOwnedSpec Rows.fnOwnedRow=true:=by
 have e1:(Rows.fnOwnedRow.lifted==prog.liftsFinal)=true:=by rw[UL];kernel_rfl
 have e2:(prog.make==some Rows.fnOwnedRow.make)=true:=Vz;unfold joinedFacts;rw[Og,e1,e2];change _=true;kernel_rfl
theorem OY:Rows.FnOwnedSaid:=
 OpenClaim.holds_of_wide 6 Tryz.f6 rfl rfl rfl rfl rfl rfl rfl ⟨rfl,rfl,rfl,rfl,rfl⟩ rfl rfl rfl rfl rfl (by kernel_rfl) func6 Oq
  (of_decide_eq_true (by kernel_rfl)) (by unfold Func.isWrapper;first|(rw[if_pos (by decide+kernel)];kernel_rfl)|(rw[if_neg (by decide+kernel)];exact⟨rfl,rfl⟩))
  (fun os started H enc _=>MZ os started H enc)
theorem fnOwned_card:Rows.FnOwnedCardSaid:=
 Claim7.holds_tied_plain_at .later [] [.data,.data,.data,.handle,.sentinel,.sentinel,.sentinel,.sentinel,.sentinel,.sentinel,.sentinel,.sentinel,.sentinel,.sentinel,.sentinel,.sentinel,.sentinel] true (true,"4b5666e7aef0a5d60bfe5f3954a0b2f69d1d55e20fb91d06866251831f707f97") true
  OY (fun _ h=>by cases h) (by kernel_rfl) (fun _ h=>by cases h) fnOwned_row_tie rfl ⟨rfl,rfl⟩ (by kernel_rfl) rfl
  (fun f fn hf hfn=>by
    obtain rfl:f=6:=Option.some.inj ((show prog.funcNamed "loop.example/g00272/laws.FnOwned" =some 6 by kernel_rfl).symm.trans hf) |>.symm;obtain rfl:fn=Tryz.f6:=(Option.some.inj (func6.symm.trans hfn)).symm;exact⟨by kernel_rfl,fun j t ht=>by
     rw[Tryz.params6]at ht;have h3:t=22:=by
      rcases j with _|j
      ·simpa using ht.symm
      ·simp at ht
     subst h3;exact(show prog.wantsStandIn 22=false by kernel_rfl)⟩)
  (by kernel_rfl)
end Go.Proofs.YtbdagpckhfcneaaGreatDoor
