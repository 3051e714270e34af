/- FnParts, the tied card: at every slice of bytes the law's call returns true, and the bytes and the listed variables read afterwards as before, where the listed tables, the thirteen errors and the handle read as their initialisers lay them. -/
import Derived.Conc.Holds
import Derived.Test.YtdaccbddcjlkpaaGreatDoorCards
import Derived.Test.YtdaccbddcjlkpaaGreatDoorTie
import Derived.Test.YtdaccbddcjlkpaaGreatDoorZ30p
import Derived.Test.YtdaccbddcjlkpaaGreatDoorH1p
import Derived.Test.YtdaccbddcjlkpaaGreatDoorH2p
import Derived.Test.YtdaccbddcjlkpaaGreatDoorH3p
set_option maxRecDepth 100000
namespace Go.Proofs.YtdaccbddcjlkpaaGreatDoor
open Go.ChangeShapes Go.WideShapes Go.ChangeAt Go.RowKit Go.Deep Go.Joins Go.Proofs.Tryz
variable {W:World}{H:Type}
def gM:List String:=["loop.example/g00272/impl.errWrong","loop.example/g00272/impl.errForm","loop.example/g00272/impl.errThread","loop.example/g00272/impl.errMade","loop.example/g00272/impl.errOwns","loop.example/g00272/impl.errKind","loop.example/g00272/impl.errChange","loop.example/g00272/impl.errFlow","loop.example/g00272/impl.errOwn","loop.example/g00272/impl.errRoot","loop.example/g00272/impl.errSee","loop.example/g00272/impl.errItems","loop.example/g00272/impl.errNone"]
theorem Tu:(Rows.fnPartsRow.laid.filter fun x=>x.2.handleName?.isSome)=[("errors.errorType",Rows.laid_errors_errorType)]:=by kernel_rfl
theorem To:(Rows.fnPartsRow.laid.filter fun x=>x.2.handleName?.isNone)=Pj:=by kernel_rfl
theorem Zw(h:laidMetH prog Rows.fnPartsRow.laid W):laidMet prog Pj W/\handlesMet prog [("errors.errorType",Rows.laid_errors_errorType)] W:=by
 unfold laidMetH at h;rw[Tu,To]at h;exact h
theorem Xt(h:laidMet prog Pj W)(k:handlesMet prog [("errors.errorType",Rows.laid_errors_errorType)] W):laidMetH prog Rows.fnPartsRow.laid W:=by
 unfold laidMetH;rw[Tu,To];exact⟨h,k⟩
theorem Ds{sp:Nat->Bool}(enc:TypeId×Value->H){n:String}{g:Nat}{a:Addr}{ns:List String}{gs:List (DataW H)}{q:List MemPlace}(hg:prog.globalNamed n=some g)(ht:(prog.globals[g]?).map (·.type)=some 137)(h:W.var? prog n=some #[.iface 314 (.pointer (some a))])(r:DataW.TrodVars enc prog W sp ns gs q):
 DataW.TrodVars enc prog W sp (n::ns) (tok enc (.iface 314 (.pointer (some a)))::gs) (.cell g 0::q):=⟨g,137,#[.iface 314 (.pointer (some a))],1,[],q,hg,ht,h,trod_held underlying137 (show IsIface (.iface 314 (.pointer (some a))) from trivial) 0,r,rfl⟩
theorem US{sp:Nat->Bool}(enc:TypeId×Value->H){E:Nat->Addr}(h0:W.var? prog "loop.example/g00272/impl.errWrong" =some #[.iface 314 (.pointer (some (E 0)))])(h1:W.var? prog "loop.example/g00272/impl.errForm" =some #[.iface 314 (.pointer (some (E 1)))])(h2:W.var? prog "loop.example/g00272/impl.errThread" =some #[.iface 314 (.pointer (some (E 2)))])(h4:W.var? prog "loop.example/g00272/impl.errMade" =some #[.iface 314 (.pointer (some (E 4)))])(h5:W.var? prog "loop.example/g00272/impl.errOwns" =some #[.iface 314 (.pointer (some (E 5)))])(h6:W.var? prog "loop.example/g00272/impl.errKind" =some #[.iface 314 (.pointer (some (E 6)))])(h8:W.var? prog "loop.example/g00272/impl.errChange" =some #[.iface 314 (.pointer (some (E 8)))])(h9:W.var? prog "loop.example/g00272/impl.errFlow" =some #[.iface 314 (.pointer (some (E 9)))])(h10:W.var? prog "loop.example/g00272/impl.errOwn" =some #[.iface 314 (.pointer (some (E 10)))])(h7:W.var? prog "loop.example/g00272/impl.errRoot" =some #[.iface 314 (.pointer (some (E 7)))])(h11:W.var? prog "loop.example/g00272/impl.errSee" =some #[.iface 314 (.pointer (some (E 11)))])(h12:W.var? prog "loop.example/g00272/impl.errItems" =some #[.iface 314 (.pointer (some (E 12)))])(h13:W.var? prog "loop.example/g00272/impl.errNone" =some #[.iface 314 (.pointer (some (E 13)))]):
 DataW.TrodVars enc prog W sp gM ([0,1,2,4,5,6,8,9,10,7,11,12,13].map fun i=>tok enc (.iface 314 (.pointer (some (E i))))) ([0,1,2,4,5,6,8,9,10,7,11,12,13].map fun i=> .cell i 0):=
 Ds enc gd gT h0<|Ds enc gn gL h1<|Ds enc gy gP h2<|Ds enc gx gJ h4<|Ds enc gm gR h5<|Ds enc gu gQ h6<|Ds enc gj gS h8<|Ds enc gg gO h9<|Ds enc bY fK h10<|Ds enc gz gK h7<|Ds enc bh fS h11<|Ds enc bu fO h12<|Ds enc cA fH h13<|rfl
def lv:DataW Unit->Value
 | .lit l=>l.value
 |_=> .nilIface
def tb:DataW Unit->Array Value
 | .agg l=>(l.map lv).toArray
 |_=>#[]
def tx:DataW Unit->Value
 | .iface _ (.ptr (.agg [d]))=>lv d
 |_=> .nilIface
def fy(h:Array Obj)(x:Nat×Array Value):Array Obj:=h.modify x.1 fun| .cells _ t f=> .cells x.2 t f|o=>o
def ups:List (Nat×Array Value):=[(0,23),(1,24),(2,25),(4,26),(5,27),(6,28),(7,29),(8,30),(9,31),(10,32),(11,33),(12,34),(13,35)].map (fun x=>(x.1,#[.iface 314 (.pointer (some ⟨x.2,0,none⟩))]))++[(3,#[.iface 209 (.agg #[.pointer (some ⟨18,137,none⟩)])]),(14,tb Rows.laid_internal_strconv_uint64pow10),(16,tb Rows.laid_math_bits_deBruijn32tab),(17,tb Rows.laid_math_bits_deBruijn64tab)]
def Xj:Array Obj:=#[.cells #[tx Rows.laid_loop_example_g00272_impl_errWrong] 334,.cells #[tx Rows.laid_loop_example_g00272_impl_errForm] 334,.cells #[tx Rows.laid_loop_example_g00272_impl_errThread] 334,.cells #[tx Rows.laid_loop_example_g00272_impl_errMade] 334,.cells #[tx Rows.laid_loop_example_g00272_impl_errOwns] 334,.cells #[tx Rows.laid_loop_example_g00272_impl_errKind] 334,.cells #[tx Rows.laid_loop_example_g00272_impl_errRoot] 334,.cells #[tx Rows.laid_loop_example_g00272_impl_errChange] 334,.cells #[tx Rows.laid_loop_example_g00272_impl_errFlow] 334,.cells #[tx Rows.laid_loop_example_g00272_impl_errOwn] 334,.cells #[tx Rows.laid_loop_example_g00272_impl_errSee] 334,.cells #[tx Rows.laid_loop_example_g00272_impl_errItems] 334,.cells #[tx Rows.laid_loop_example_g00272_impl_errNone] 334]
theorem ZS(os:Os)(args:Array Value):laidMetH prog Rows.fnPartsRow.laid (({(World.holding prog os ⟨Xj,#[],[]⟩)with heap:=ups.foldl fy (World.holding prog os ⟨Xj,#[],[]⟩).heap}:World).forCall (fun _ _=>0) ⟨#[],args,[]⟩).memory:=
 Xt (laidMet_of_run3 8 kR kR kR) (handlesMet_of_B kR)
theorem OD(os:Os)(started:os.Started)(H:Type)(enc:TypeId×Value->H):
 ReturnsInHanded {} Tryz.checked os 3 .any (fun w args=>(Rows.fnPartsSpec.pre enc prog Tryz.f3 Rows.fnPartsRow.domain false w args/\laidMetH prog Rows.fnPartsRow.laid w)/\sizedMet enc prog Tryz.f3 (OpenSpec.ofChange Rows.fnPartsSpec) false w args)
  (Rows.fnPartsSpec.post enc prog Tryz.f3 false true false false):=by
 refine returnsInHanded_of_change_and (C:=Tryz.checked) (X:=fun w _=>laidMetH prog Rows.fnPartsRow.laid w) (fun _ _ _ hh h=>h.of_heap hh) Tryz.ownKnob started kR func3
  (ChangeSpec.witness_at (enc:=enc) (C:=Tryz.checked) (os:=os) (X:=fun w _=>laidMetH prog Rows.fnPartsRow.laid w) false ({(World.holding prog os ⟨Xj,#[],[]⟩)with heap:=ups.foldl fy (World.holding prog os ⟨Xj,#[],[]⟩).heap}:World) #[.slice none 0 0] 8 rfl kR kR kR kR kR (ZS os _)) ?_
 intro W base args ds gs before hval0 hW hcnd _ hL _;have hval:∀(j:Nat) t v,Tryz.f3.params[j]? =some t->args[j]? =some v->Value.okWide prog W .any base t v:=hval0;have hW':=hW;obtain⟨p,q,hA0,hV,rfl,hfz,hnd⟩:=hW;have hA:DataW.TrodAll enc prog W 0 (fun _=>true) true Tryz.f3.params.toList args.toList ds p:=hA0;rw[Tryz.params3]at hA hval;obtain⟨v0,vs0,d0,ds0,p0,q0,hargs,rfl,rfl,h0,r0⟩:=trodAll_cons hA;obtain⟨rfl,rfl,rfl⟩:=trodAll_nil r0;obtain rfl:args=#[v0]:=by cases args;simp_all
 have hV2:DataW.TrodVars enc prog W (fun _=>true) gM gs q:=hV;have k0:=h0;have Ju:∀x∈p0,x.block<W.heap.size:=by obtain⟨m,hm⟩:=k0;exact DataW.trod_lt m _ _ _ hm
 obtain⟨a0,n0,c0,rfl,hc0⟩:=Sj (hval 0 22 v0 rfl rfl) h0;clear hA0 hval0;obtain⟨E,hv,e0,e1,e2,e4,e5,e6,e8,e9,e10,e7,e11,e12,e13⟩:=Zb (Zw hL);obtain⟨rfl,rfl⟩:=hV2.unique (US enc e0 e1 e2 e4 e5 e6 e8 e9 e10 e7 e11 e12 e13);refine(Vq E a0 n0 c0 W (.inr hc0) hv).mono fun e W' ⟨he,bel⟩=>?_;subst he;exact⟨_,rfl,_,_,_,[],_,_,hW',trodAll_mk1 (shut_bool underlying4 _),trodAll_cons_mk (Below.trod Tryz.laidOut kR (of_decide_eq_true kR) k0 bel Ju) trodAll_mk0,US enc (Ea gd e0 bel) (Ea gn e1 bel) (Ea gy e2 bel) (Ea gx e4 bel) (Ea gm e5 bel) (Ea gu e6 bel) (Ea gj e8 bel) (Ea gg e9 bel) (Ea bY e10 bel) (Ea gz e7 bel) (Ea bh e11 bel) (Ea bu e12 bel) (Ea cA e13 bel),bel.frame _,fun h=>by cases h⟩
theorem Qu:joinedFacts prog 3 Tryz.f3 Rows.fnPartsSpec Rows.fnPartsRow=true:=by
 have e1:(Rows.fnPartsRow.lifted==prog.liftsFinal)=true:=by rw[Wq];kernel_rfl
 have e2:(prog.make==some Rows.fnPartsRow.make)=true:=XZ;unfold joinedFacts;rw[QC,e1,e2];change _=true;kernel_rfl
theorem PR{a:Assume}{C:Checked}{os:Os}{f:FuncId}{r:Reach}{Pre:World->Array Value->Prop}{Post:World->Array Value->Value->World->Prop}(h:ReturnsInHanded a C os f r Pre Post):ReturnsInLeavingWide a C os f r Pre Post:=fun enter=>by
 obtain⟨h1,h2,h3,h4,all⟩:=h enter;refine⟨h1,h2,h3,h4,fun w tape i hf=>?_⟩;obtain⟨n,v,w',b1,b2,b3,b4,⟨j,last,c1,c2,c3,c4,c5⟩,b6⟩:=all w tape i hf;exact⟨n,v,w',b1,b2,b3,b4,⟨j,last,c1,c2,c4,⟨fun g hg=>⟨0,eq_of_beq (List.all_eq_true.1 c3.1 g hg)⟩,c3.2⟩,c5⟩,b6⟩
theorem Qk:Rows.FnPartsSaid:=
 OpenClaim.holds_of_wide_leaving 3 Tryz.f3 rfl rfl rfl rfl rfl rfl rfl ⟨rfl,rfl,rfl,rfl,rfl⟩ rfl rfl rfl rfl rfl kR func3 Qu
  (of_decide_eq_true kR) (by unfold Func.isWrapper;first|(rw[if_pos (by decide+kernel)];kernel_rfl)|(rw[if_neg (by decide+kernel)];exact⟨rfl,rfl⟩))
  (fun os started H enc _=>PR (OD os started H enc))
theorem XS(Lk:Looks){p:Pinned}{s:OpenSpec}{c:OpenClaim}(kinds:List LaidKind)(tests:Bool)(har:Bool×String)(lk:Bool)
 (hc:c.holds p s)(hw:c.wfByText s=true)(htie:c.laidByTextAt Lk p kinds tests)
 (hst:c.start= .entering)(hnb:c.noBlocks=false/\c.again=false)(hm:p.checked.prog.mainIs=some (har.1,har.2.toList))(hn:(!har.1&&har.2.isEmpty&& !lk)=false)
 (hl:∀f fn,p.checked.prog.funcNamed c.func=some f->p.checked.prog.funcs[f]? =some fn->lk=p.checked.prog.looks []/\∀(j:Nat) t,fn.params[j]? =some t->p.checked.prog.wantsStandIn t=false)
 (hg:true=c.goesBy p.checked.prog):
 Claim7.holds p (.plain s) {stood:={row:=c,standIns:=[],harness:=har,looks:=lk},kinds:=[],alts:=[],goes:=true,laidByText:=true,laidKinds:=kinds,laidTests:=tests,laidLooks:=Lk}:=by
 have h6:∀r:OpenClaim,Claim7.isSixth {stood:={row:=r,standIns:=[],harness:=har,looks:=lk},kinds:=[]}=false:=fun r=>by simpa[Claim7.isSixth]using hn
 exact⟨Claim7.tied_new_at Lk kinds tests (Claim7.new_of_sixth hc har lk hst hnb hm (h6 c) hl) hw,(fun D hD=>by cases hD),htie,(fun h=>by cases h),hg⟩
theorem fnParts_card:Rows.FnPartsCardSaid:=
 XS .later [.data,.data,.data,.handle,.sentinel,.sentinel,.sentinel,.sentinel,.sentinel,.sentinel,.sentinel,.sentinel,.sentinel,.sentinel,.sentinel,.sentinel,.sentinel] true (true,"e81ed895e7bf52a661dadd3b15c8493cdf6d7e904792f96d5a6ad7f8970a5f9a") true
  Qk kR fnParts_row_tie rfl ⟨rfl,rfl⟩ kR rfl
  (fun f fn hf hfn=>by
    obtain rfl:f=3:=Option.some.inj ((show prog.funcNamed "loop.example/g00272/laws.FnParts" =some 3 by kernel_rfl).symm.trans hf) |>.symm;obtain rfl:fn=Tryz.f3:=(Option.some.inj (func3.symm.trans hfn)).symm;exact⟨by kernel_rfl,fun j t ht=>by
     rw[Tryz.params3]at ht;have h3:t=22:=by
      rcases j with _|j
      ·simpa using ht.symm
      ·simp at ht
     subst h3;exact(show prog.wantsStandIn 22=false by kernel_rfl)⟩)
  kR
end Go.Proofs.YtdaccbddcjlkpaaGreatDoor
