/- FnKernelTexts, the tied card: at every slice of bytes the law's call returns true, and the bytes and the listed variables read afterwards as before, where the listed tables and the one error read as their initialisers lay them. -/
import Derived.Test.YtblapfnglojgjaaGreatDoorCards
import Derived.Test.YtblapfnglojgjaaGreatDoorTie
import Derived.ChangeSame
import Derived.ChangeVars
import Derived.JoinedOf
import Derived.LaidLaws
import Derived.LaidHandle
import Derived.Stop.LaidErr
import Derived.Lib.LaidTab
import Derived.Deep.DeepLaidRun
import Derived.SevenTiedAt
import Derived.Test.YtblapfnglojgjaaGreatDoorZ41k
import Derived.Test.YtblapfnglojgjaaGreatDoorH1k
import Derived.Test.YtblapfnglojgjaaGreatDoorH2k
import Derived.Test.YtblapfnglojgjaaGreatDoorH3k
set_option maxRecDepth 100000
namespace Go.Proofs.YtblapfnglojgjaaGreatDoor
open Go.ChangeShapes Go.WideShapes Go.ChangeAt Go.RowKit Go.Deep Go.Joins Go.Proofs.Tryz
variable {W:World}
def dA:Array Value:=#[.int .u64 1,.int .u64 10,.int .u64 100,.int .u64 1000,.int .u64 10000,.int .u64 100000,.int .u64 1000000,.int .u64 10000000,.int .u64 100000000,.int .u64 1000000000,.int .u64 10000000000,.int .u64 100000000000,.int .u64 1000000000000,.int .u64 10000000000000,.int .u64 100000000000000,.int .u64 1000000000000000,.int .u64 10000000000000000,.int .u64 100000000000000000,.int .u64 1000000000000000000,.int .u64 10000000000000000000]
def dw:Array Value:=#[.int .u8 0,.int .u8 1,.int .u8 28,.int .u8 2,.int .u8 29,.int .u8 14,.int .u8 24,.int .u8 3,.int .u8 30,.int .u8 22,.int .u8 20,.int .u8 15,.int .u8 25,.int .u8 17,.int .u8 4,.int .u8 8,.int .u8 31,.int .u8 27,.int .u8 13,.int .u8 23,.int .u8 21,.int .u8 19,.int .u8 16,.int .u8 7,.int .u8 26,.int .u8 12,.int .u8 18,.int .u8 6,.int .u8 11,.int .u8 5,.int .u8 10,.int .u8 9]
def dy:Array Value:=#[.int .u8 0,.int .u8 1,.int .u8 56,.int .u8 2,.int .u8 57,.int .u8 49,.int .u8 28,.int .u8 3,.int .u8 61,.int .u8 58,.int .u8 42,.int .u8 50,.int .u8 38,.int .u8 29,.int .u8 17,.int .u8 4,.int .u8 62,.int .u8 47,.int .u8 59,.int .u8 36,.int .u8 45,.int .u8 43,.int .u8 51,.int .u8 22,.int .u8 53,.int .u8 39,.int .u8 33,.int .u8 30,.int .u8 24,.int .u8 18,.int .u8 12,.int .u8 5,.int .u8 63,.int .u8 55,.int .u8 48,.int .u8 27,.int .u8 60,.int .u8 41,.int .u8 37,.int .u8 16,.int .u8 46,.int .u8 35,.int .u8 44,.int .u8 21,.int .u8 52,.int .u8 32,.int .u8 23,.int .u8 11,.int .u8 54,.int .u8 26,.int .u8 40,.int .u8 15,.int .u8 34,.int .u8 20,.int .u8 31,.int .u8 10,.int .u8 25,.int .u8 14,.int .u8 19,.int .u8 9,.int .u8 13,.int .u8 8,.int .u8 7,.int .u8 6]
def dv:ByteArray:=⟨#[116,104,101,32,116,101,120,116,32,105,115,32,110,111,116,32,97,115,32,105,116,32,119,111,117,108,100,32,98,101,32,119,114,105,116,116,101,110]⟩
theorem Tryz.g2:prog.globalNamed "internal/strconv.uint64pow10" =some 1:=by kernel_rfl
theorem Tryz.g2t:(prog.globals[1]?).map (·.type)=some 173:=by kernel_rfl
theorem Tryz.cells173:prog.cellsOf 173=20:=by kernel_rfl
theorem Rc:prog.globalNamed "loop.example/g00272/impl.errText" =some 0:=by kernel_rfl
theorem Wm:(prog.globals[0]?).map (·.type)=some 116:=by kernel_rfl
theorem Ya:prog.cellsOf 204=1:=by kernel_rfl
theorem Vu:prog.cellsOf 9=1:=by kernel_rfl
theorem Un: "*" ++ "errors.errorString" = "*errors.errorString" :=by decide
theorem av(u:TypeId)(h:prog.typeName? 3 u=some "*errors.errorString"):u=190:=
 typeName_ptr_named (nm:= "errors.errorString") (by rw[Un];kernel_rfl) (by kernel_rfl) (by decide) u (by rw[Un];exact h)
theorem Rh(h:laidMetH prog Rows.fnKernelTextsRow.laid W):laidMet prog [("math/bits.deBruijn32tab",Rows.laid_math_bits_deBruijn32tab),("math/bits.deBruijn64tab",Rows.laid_math_bits_deBruijn64tab),("internal/strconv.uint64pow10",Lib.tabData .u64 Lib.pow10Tab),("loop.example/g00272/impl.errText",Rows.laid_loop_example_g00272_impl_errText)] W:=h
theorem UH(h:laidMetH prog Rows.fnKernelTextsRow.laid W):Tf W:=
 Lib.tabIs_of_head Tryz.g2 Tryz.g2t underlying173 underlying132 (by kernel_rfl) Tryz.cells173 (Rh h).tail.tail
theorem cG(h:laidMetH prog Rows.fnKernelTextsRow.laid W):∃a:Addr,W.var? prog "loop.example/g00272/impl.errText" =some #[.iface 190 (.pointer (some a))]:=by
 obtain⟨a,s,hv,_⟩:=laid_sentinel (Rh h).tail.tail.tail Rc Wm underlying116 av underlying190 underlying204 rfl rfl underlying9 Ya Vu;exact⟨a,hv⟩
theorem Yu{cs:Array Value}(h:W.var? prog "loop.example/g00272/impl.errText" =some cs):0<W.heap.size:=by
 by_cases e:0<W.heap.size
 ·exact e
 ·simp only[World.var?,Rc,Option.bind_some]at h;rw[Array.getElem?_eq_none (by omega)]at h;cases h
theorem Zi{W':World}{cs:Array Value}(h:W.var? prog "loop.example/g00272/impl.errText" =some cs)(bel:Below W W W'):W'.var? prog "loop.example/g00272/impl.errText" =some cs:=by
 have h0:=Yu h;unfold World.var? at h ⊢;simp only[Rc,Option.bind_some]at h ⊢;rw[bel.block 0 h0];exact h
noncomputable def low:Nat:=(World.holding prog default ⟨#[],#[],[]⟩).heap.size
noncomputable def laidWorld(os:Os):World:=
 let w0:=World.holding prog os ⟨#[.cells #[.string dv] 204],#[],[]⟩
 {w0 with heap:=((((w0.heap.modify 0 fun
  | .cells _ t frozen=> .cells #[.iface 190 (.pointer (some ⟨low,0,none⟩))] t frozen
  |o=>o).modify 1 fun| .cells _ t frozen=> .cells dA t frozen|o=>o).modify 3 fun| .cells _ t frozen=> .cells dw t frozen|o=>o).modify 4 fun| .cells _ t frozen=> .cells dy t frozen|o=>o)}
theorem YR(os:Os)(args:Array Value):laidMetH prog Rows.fnKernelTextsRow.laid ((laidWorld os).forCall (fun _ _=>0) ⟨#[],args,[]⟩).memory:=by
 show laidMet prog Rows.fnKernelTextsRow.laid _;exact laidMet_of_run3 8 (by kernel_rfl) (by kernel_rfl) (by kernel_rfl)
theorem JQ(os:Os)(started:os.Started)(H:Type)(enc:TypeId×Value->H):
 ReturnsInHanded {} Tryz.checked os 3 .any (fun w args=>(Rows.fnKernelTextsSpec.pre enc prog Tryz.f3 Rows.fnKernelTextsRow.domain false w args/\laidMetH prog Rows.fnKernelTextsRow.laid w)/\sizedMet enc prog Tryz.f3 (OpenSpec.ofChange Rows.fnKernelTextsSpec) false w args)
  (Rows.fnKernelTextsSpec.post enc prog Tryz.f3 false true false false):=by
 refine returnsInHanded_of_change_and (C:=Tryz.checked) (X:=fun w _=>laidMetH prog Rows.fnKernelTextsRow.laid w) (fun _ _ _ hh h=>h.of_heap hh) Tryz.ownKnob started (by kernel_rfl) func3
  (ChangeSpec.witness_at (enc:=enc) (C:=Tryz.checked) (os:=os) (X:=fun w _=>laidMetH prog Rows.fnKernelTextsRow.laid w) false (laidWorld os) #[.slice none 0 0] 8 rfl (by kernel_rfl) (by kernel_rfl) (by kernel_rfl) (by kernel_rfl) (by kernel_rfl) (YR os _)) ?_
 intro W base args ds gs before hval0 hW hcnd _ hL _;have hval:∀(j:Nat) t v,Tryz.f3.params[j]? =some t->args[j]? =some v->Value.okWide prog W .any base t v:=hval0;have hW':=hW;obtain⟨p,q,hA0,hV,rfl,hfz,hnd⟩:=hW;have hA:DataW.TrodAll enc prog W 0 (fun _=>true) true Tryz.f3.params.toList args.toList ds p:=hA0;rw[Tryz.params3]at hA hval;obtain⟨v0,vs0,d0,ds0,p0,q0,hargs,rfl,rfl,h0,r0⟩:=trodAll_cons hA;obtain⟨rfl,rfl,rfl⟩:=trodAll_nil r0;obtain rfl:args=#[v0]:=by cases args;simp_all
 have hV2:DataW.TrodVars enc prog W (fun _=>true) ["loop.example/g00272/impl.errText"] gs q:=hV;have k0:=h0;have lt0:∀x∈p0,x.block<W.heap.size:=by obtain⟨m,hm⟩:=k0;exact DataW.trod_lt m _ _ _ hm
 obtain⟨a0,n0,c0,rfl,hc0⟩:=Sr (hval 0 22 v0 rfl rfl) h0;clear hA0 hval0;obtain⟨a1,hv0⟩:=cG hL;obtain⟨rfl,rfl⟩:=hV2.unique (vars_read1 enc Rc Wm underlying116 hv0 trivial _);have hE:MR 190 (.pointer (some a1)) W:=⟨by simpa using World.var?_cell Rc hv0 0,Yu hv0⟩;refine(MJ 190 (.pointer (some a1)) a0 n0 c0 W (.inr hc0) (UH hL) hE).mono fun e W' ⟨he,bel⟩=>?_;subst he;exact⟨_,rfl,_,_,_,[],_,[.cell 0 0],hW',trodAll_mk1 (shut_bool underlying4 _),trodAll_cons_mk (Below.trod Tryz.laidOut (by kernel_rfl) (of_decide_eq_true (by kernel_rfl)) k0 bel lt0) trodAll_mk0,vars_read1 enc Rc Wm underlying116 (Zi hv0 bel) trivial _,bel.frame _,fun h=>by cases h⟩
theorem Kz:joinedFacts prog 3 Tryz.f3 Rows.fnKernelTextsSpec Rows.fnKernelTextsRow=true:=by
 have e1:(Rows.fnKernelTextsRow.lifted==prog.liftsFinal)=true:=by rw[Vy];kernel_rfl
 have e2:(prog.make==some Rows.fnKernelTextsRow.make)=true:=Xf;unfold joinedFacts;rw[Qt,e1,e2];change _=true;kernel_rfl
theorem KG:Rows.FnKernelTextsSaid:=
 OpenClaim.holds_of_wide 3 Tryz.f3 rfl rfl rfl rfl rfl rfl rfl ⟨rfl,rfl,rfl,rfl,rfl⟩ rfl rfl rfl rfl rfl (by kernel_rfl) func3 Kz
  (of_decide_eq_true (by kernel_rfl)) (by unfold Func.isWrapper;first|(rw[if_pos (by decide+kernel)];kernel_rfl)|(rw[if_neg (by decide+kernel)];exact⟨rfl,rfl⟩))
  (fun os started H enc _=>JQ os started H enc)
theorem fnKernelTexts_card:Rows.FnKernelTextsCardSaid:=
 Claim7.holds_tied_plain_at .later [] [.data,.data,.data,.sentinel] true (true,"af52927c6b0276876ddf7a33fc0c01c9c5bdcaf85d794acebf15801bd33ba21c") false
  KG (fun _ h=>by cases h) (by kernel_rfl) (fun _ h=>by cases h) fnKernelTexts_row_tie rfl ⟨rfl,rfl⟩ (by kernel_rfl) rfl
  (fun f fn hf hfn=>by
    obtain rfl:f=3:=Option.some.inj ((show prog.funcNamed "loop.example/g00272/laws.FnKernelTexts" =some 3 by kernel_rfl).symm.trans hf) |>.symm;obtain rfl:fn=Tryz.f3:=(Option.some.inj (func3.symm.trans hfn)).symm;exact⟨by kernel_rfl,fun j t ht=>by
     rw[Tryz.params3]at ht;have h3:t=22:=by
      rcases j with _|j
      ·simpa using ht.symm
      ·simp at ht
     subst h3;exact(show prog.wantsStandIn 22=false by kernel_rfl)⟩)
  (by kernel_rfl)
end Go.Proofs.YtblapfnglojgjaaGreatDoor
