/- FnViews, the tied card: at every slice of bytes the law's call returns true, and the bytes and the listed variables read afterwards as before, where the listed tables read as their initialisers lay them. -/
import Derived.Test.YtbacmamplkdgaaaGreatDoorVI4a
import Derived.Test.YtbacmamplkdgaaaGreatDoorZ41a
import Derived.Test.YtbacmamplkdgaaaGreatDoorH1a
import Derived.Test.YtbacmamplkdgaaaGreatDoorH2a
import Derived.Test.YtbacmamplkdgaaaGreatDoorH3a
import Derived.Test.YtbacmamplkdgaaaGreatDoorCards
import Derived.Test.YtbacmamplkdgaaaGreatDoorTie
import Derived.ChangeSame
import Derived.ChangeVars
import Derived.JoinedOf
import Derived.LaidLaws
import Derived.LaidHandle
import Derived.Stop.LaidErr
import Derived.Lib.LaidTab
import Derived.Deep.DeepLaidRun
import Derived.SevenTiedAt
set_option maxRecDepth 100000
namespace Go.Proofs.YtbacmamplkdgaaaGreatDoor
open Go.ChangeShapes Go.WideShapes Go.ChangeAt Go.RowKit Go.Deep Go.Joins
def tab1:Array Value:=#[.int .u64 1,.int .u64 10,.int .u64 100,.int .u64 1000,.int .u64 10000,.int .u64 100000,.int .u64 1000000,.int .u64 10000000,.int .u64 100000000,.int .u64 1000000000,.int .u64 10000000000,.int .u64 100000000000,.int .u64 1000000000000,.int .u64 10000000000000,.int .u64 100000000000000,.int .u64 1000000000000000,.int .u64 10000000000000000,.int .u64 100000000000000000,.int .u64 1000000000000000000,.int .u64 10000000000000000000]
def tab2:Array Value:=#[.int .u8 0,.int .u8 1,.int .u8 28,.int .u8 2,.int .u8 29,.int .u8 14,.int .u8 24,.int .u8 3,.int .u8 30,.int .u8 22,.int .u8 20,.int .u8 15,.int .u8 25,.int .u8 17,.int .u8 4,.int .u8 8,.int .u8 31,.int .u8 27,.int .u8 13,.int .u8 23,.int .u8 21,.int .u8 19,.int .u8 16,.int .u8 7,.int .u8 26,.int .u8 12,.int .u8 18,.int .u8 6,.int .u8 11,.int .u8 5,.int .u8 10,.int .u8 9]
def tab3:Array Value:=#[.int .u8 0,.int .u8 1,.int .u8 56,.int .u8 2,.int .u8 57,.int .u8 49,.int .u8 28,.int .u8 3,.int .u8 61,.int .u8 58,.int .u8 42,.int .u8 50,.int .u8 38,.int .u8 29,.int .u8 17,.int .u8 4,.int .u8 62,.int .u8 47,.int .u8 59,.int .u8 36,.int .u8 45,.int .u8 43,.int .u8 51,.int .u8 22,.int .u8 53,.int .u8 39,.int .u8 33,.int .u8 30,.int .u8 24,.int .u8 18,.int .u8 12,.int .u8 5,.int .u8 63,.int .u8 55,.int .u8 48,.int .u8 27,.int .u8 60,.int .u8 41,.int .u8 37,.int .u8 16,.int .u8 46,.int .u8 35,.int .u8 44,.int .u8 21,.int .u8 52,.int .u8 32,.int .u8 23,.int .u8 11,.int .u8 54,.int .u8 26,.int .u8 40,.int .u8 15,.int .u8 34,.int .u8 20,.int .u8 31,.int .u8 10,.int .u8 25,.int .u8 14,.int .u8 19,.int .u8 9,.int .u8 13,.int .u8 8,.int .u8 7,.int .u8 6]
theorem Tryz.g1:Tryz.prog.globalNamed "internal/strconv.uint64pow10" =some 2:=by kernel_rfl
theorem Tryz.g1t:(Tryz.prog.globals[2]?).map (·.type)=some 206:=by kernel_rfl
theorem Tryz.cells206:Tryz.prog.cellsOf 206=20:=by kernel_rfl
theorem tab_of_laid{W:World}(h:laidMetH Tryz.prog Rows.fnViewsRow.laid W):Tab W:=by
 have h':laidMet Tryz.prog [("math/bits.deBruijn32tab",Rows.laid_math_bits_deBruijn32tab),("math/bits.deBruijn64tab",Rows.laid_math_bits_deBruijn64tab),("internal/strconv.uint64pow10",Lib.tabData .u64 Lib.pow10Tab)] W:=h;exact Lib.tabIs_of_head Tryz.g1 Tryz.g1t Tryz.underlying206 Tryz.underlying166 (by kernel_rfl) Tryz.cells206 h'.tail.tail
theorem laid_met(os:Os)(args:Array Value):laidMetH Tryz.prog Rows.fnViewsRow.laid (({(World.holding Tryz.prog os ⟨#[],#[],[]⟩)with heap:=(((((((World.holding Tryz.prog os ⟨#[],#[],[]⟩).heap).modify 2 fun| .cells _ t frozen=> .cells tab1 t frozen|o=>o)).modify 3 fun| .cells _ t frozen=> .cells tab2 t frozen|o=>o)).modify 4 fun| .cells _ t frozen=> .cells tab3 t frozen|o=>o)}:World).forCall (fun _ _=>0) ⟨#[],args,[]⟩).memory:=by
 show laidMet Tryz.prog Rows.fnViewsRow.laid _;exact laidMet_of_run3 8 (by kernel_rfl) (by kernel_rfl) (by kernel_rfl)
theorem fnViews_lifted(os:Os)(started:os.Started)(H:Type)(enc:TypeId×Value→H):
 ReturnsInHanded {} Tryz.checked os 3 .any (fun w args=>(Rows.fnViewsSpec.pre enc Tryz.prog Tryz.f3 Rows.fnViewsRow.domain false w args∧laidMetH Tryz.prog Rows.fnViewsRow.laid w)∧sizedMet enc Tryz.prog Tryz.f3 (OpenSpec.ofChange Rows.fnViewsSpec) false w args)
  (Rows.fnViewsSpec.post enc Tryz.prog Tryz.f3 false true false false):=by
 refine returnsInHanded_of_change_and (C:=Tryz.checked) (X:=fun w _=>laidMetH Tryz.prog Rows.fnViewsRow.laid w) (fun _ _ _ hh h=>h.of_heap hh) Tryz.ownKnob started (by kernel_rfl) Tryz.func3
  (ChangeSpec.witness_at (enc:=enc) (C:=Tryz.checked) (os:=os) (X:=fun w _=>laidMetH Tryz.prog Rows.fnViewsRow.laid w) false ({(World.holding Tryz.prog os ⟨#[],#[],[]⟩)with heap:=(((((((World.holding Tryz.prog os ⟨#[],#[],[]⟩).heap).modify 2 fun| .cells _ t frozen=> .cells tab1 t frozen|o=>o)).modify 3 fun| .cells _ t frozen=> .cells tab2 t frozen|o=>o)).modify 4 fun| .cells _ t frozen=> .cells tab3 t frozen|o=>o)}:World) #[.slice none 0 0] 8 rfl (by kernel_rfl) (by kernel_rfl) (by kernel_rfl) (by kernel_rfl) (by kernel_rfl) (laid_met os _)) ?_
 intro W base args ds gs before hval0 hW hcnd _ hL _;have hval:∀(j:Nat) t v,Tryz.f3.params[j]? =some t→args[j]? =some v→Value.okWide Tryz.prog W .any base t v:=hval0;have hW':=hW;obtain⟨p,q,hA0,hV,rfl,hfz,hnd⟩:=hW;have hA:DataW.TrodAll enc Tryz.prog W 0 (fun _=>true) true Tryz.f3.params.toList args.toList ds p:=hA0;rw[Tryz.params3]at hA hval;obtain⟨v0,vs0,d0,ds0,p0,q0,hargs,rfl,rfl,h0,r0⟩:=trodAll_cons hA;obtain⟨rfl,rfl,rfl⟩:=trodAll_nil r0;obtain rfl:args=#[v0]:=by cases args;simp_all
 obtain⟨rfl,rfl⟩:=trodVars_none hV;have k0:=h0;have lt0:∀x∈p0,x.block<W.heap.size:=by obtain⟨m,hm⟩:=k0;exact DataW.trod_lt m _ _ _ hm
 obtain⟨a0,n0,c0,rfl,hc0⟩:=open_codeArg (hval 0 22 v0 rfl rfl) h0;clear hA0 hval0;refine(views_walk a0 n0 c0 W (.inr hc0) (tab_of_laid hL)).mono fun e W' ⟨he,bel⟩=>?_;subst he;exact⟨_,rfl,_,_,_,[],_,[],hW',trodAll_mk1 (shut_bool Tryz.underlying4 _),trodAll_cons_mk (Below.trod Tryz.laidOut (by kernel_rfl) (of_decide_eq_true (by kernel_rfl)) k0 bel lt0) trodAll_mk0,rfl,bel.frame _,fun h=>by cases h⟩
theorem fnViews_facts:joinedFacts Tryz.prog 3 Tryz.f3 Rows.fnViewsSpec Rows.fnViewsRow=true:=by
 have e1:(Rows.fnViewsRow.lifted==Tryz.prog.liftsFinal)=true:=by rw[fact_lifts];kernel_rfl
 have e2:(Tryz.prog.make==some Rows.fnViewsRow.make)=true:=fact_make;unfold joinedFacts;rw[fact_mayEnter,e1,e2];change _=true;kernel_rfl
theorem fnViews_holds:Rows.FnViewsSaid:=
 OpenClaim.holds_of_wide 3 Tryz.f3 rfl rfl rfl rfl rfl rfl rfl ⟨rfl,rfl,rfl,rfl,rfl⟩ rfl rfl rfl rfl rfl (by kernel_rfl) Tryz.func3 fnViews_facts
  (of_decide_eq_true (by kernel_rfl)) (by unfold Func.isWrapper;first|(rw[if_pos (by decide+kernel)];kernel_rfl)|(rw[if_neg (by decide+kernel)];exact⟨rfl,rfl⟩))
  (fun os started H enc _=>fnViews_lifted os started H enc)
theorem fnViews_card:Rows.FnViewsCardSaid:=
 Claim7.holds_tied_plain_at .later [] [.data,.data,.data] true (true,"0b7becc3356601446bf501212d68fafd242390766681a2f4a55993f2e4d6f031") true
  fnViews_holds (fun _ h=>by cases h) (by kernel_rfl) (fun _ h=>by cases h) fnViews_row_tie rfl ⟨rfl,rfl⟩ (by kernel_rfl) rfl
  (fun f fn hf hfn=>by
    obtain rfl:f=3:=Option.some.inj ((show Tryz.prog.funcNamed "loop.example/g00272/laws.FnViews" =some 3 by kernel_rfl).symm.trans hf) |>.symm;obtain rfl:fn=Tryz.f3:=(Option.some.inj (Tryz.func3.symm.trans hfn)).symm;exact⟨by kernel_rfl,fun j t ht=>by
     rw[Tryz.params3]at ht;have h3:t=22:=by
      rcases j with _|j
      ·simpa using ht.symm
      ·simp at ht
     subst h3;exact(show Tryz.prog.wantsStandIn 22=false by kernel_rfl)⟩)
  (by kernel_rfl)
end Go.Proofs.YtbacmamplkdgaaaGreatDoor
