import Derived.OrdersIn
import Derived.OrdersHeld
import Derived.Shelf.RegionOpen
import Derived.OwnWalkIn
import Derived.TacticsInMore
import Derived.LoopNIn
import Derived.LoopIn
import Derived.Test.YteoihknaljgocaaGreatDoorZ19m
set_option maxRecDepth 100000
set_option maxHeartbeats 4000000
namespace Go.Proofs.YteoihknaljgocaaGreatDoor
open Go Go.RowKit Go.Deep Go.Maps
section
variable {F:Fence}{n:Nat}{P:Program}{ops:Array Oper}{Q:Exit->Act->World->Prop}{md:Region.Mode}{S:World->Prop}{X:List Nat}
def FC(P:Program)(ops:Array Oper)(S:World->Prop)(o:Oper)(v:Value)(a:Act):Prop:=YieldsIf P ops S o v a/\∀w,o.about P w a.eval=none
theorem FC.wpOpIn{i:Nat}{o:Oper}{v:Value}{a:Act}(hro:F.round=none)(hi:ops[i]? =some o)(hy:FC P ops S o v a)
 {K:Act->World->Prop}{w:World}(hS:S w)(h:K (a.put o.dst v) w):wpOpIn F n P ops Q i K a w:=by
 unfold Go.wpOpIn;simp only[hi];have hab:∀f,o.about P w a.eval=some f->F.fn f:=fun f hf=>by rw[hy.2 w]at hf;cases hf
 rcases hy.1 with⟨hw,hv⟩|⟨hw,rfl⟩
 ·simp only[hw,if_true,Oper.wpIn,hro,Oper.semAt_none,hv w hS,Oper.uponIn];exact⟨hab,h⟩
 ·simp only[hw,Bool.false_eq_true,if_false];exact⟨hab,h⟩
theorem FC.of_same{o:Oper}{v:Value}{a a':Act}(hy:FC P ops S o v a)(he:execOp a'.eval o=execOp a.eval o)
 (hw:Region.wanted o (yielded ops a'.tmps)=Region.wanted o (yielded ops a.tmps))(hb:∀w,o.about P w a'.eval=o.about P w a.eval):FC P ops S o v a':=
 ⟨hy.1.of_same he hw,fun w=>by rw[hb w];exact hy.2 w⟩
theorem SQ{j:Nat}{oi oj:Oper}{v:Value}(hro:F.round=none)(hj:ops[j]? =some oj)(hap:oi.apart ops oj=true)
 (hsi:∀cs b,oi.op≠ .select cs b)(hsj:∀cs b,oj.op≠ .select cs b)
 (hQ:∀c a w,Q (.panic c) (a.put oi.dst v) w->Q (.panic c) a w){K:Act->World->Prop}{a:Act}{w:World}
 (hy:FC P ops S oi v a)(h:wpOpIn F n P ops Q j K (a.put oi.dst v) w):
 wpOpIn F n P ops Q j (fun a' w'=>FC P ops S oi v a'/\K (a'.put oi.dst v) w') a w:=by
 obtain⟨h1,h2,h3⟩:=Oper.apart_spec hap;have keep:∀(a:Act),FC P ops S oi v a->∀u,FC P ops S oi v (a.put oj.dst u):=fun a hy u=>
  hy.of_same (execOp_put oi hsi a oj.dst u h3) (wanted_put oi a oj.dst u h3) (fun w=>about_put oi w a oj.dst u h3)
 have keepD:∀d,FC P ops S oi v {a with defers:=d::a.defers}:=fun d=>hy.of_same rfl rfl (fun _=>rfl);unfold wpOpIn at *;simp only[hj]at *;rw[wanted_put oj a oi.dst v h1,about_put oj w a oi.dst v h1]at h;split
 ·rename_i hw;simp only[hw,if_true]at h;unfold Oper.wpIn at *;rw[about_put oj w a oi.dst v h1]at h;refine⟨h.1,?_⟩;have h:=h.2;rw[hro,Oper.semAt_none,execOp_put oj hsj a oi.dst v h1]at h;rw[hro,Oper.semAt_none];generalize (execOp a.eval oj).run P w=r at *;cases r with
  |ok x w'=>
   cases x<;>simp only[Oper.uponIn]at h ⊢;case value u=>exact⟨keep a hy u,by rw[<-Act.put_comm a v u h2];exact h⟩
   case skip=>exact⟨keep a hy _,by rw[<-Act.put_comm a v undef h2];exact h⟩
   case defer d=>
    refine⟨keep _ (keepD d) _,?_⟩;rw[<-Act.put_comm _ v undef h2,<-Act.put_defers];exact h
   case enter f args=>
    refine⟨h.1,CallsIn.mono h.2 fun e w'' he=>?_⟩;cases e with
    |returned u=>exact⟨keep a hy u,by rw[<-Act.put_comm a v u h2];exact he⟩
    |panicked c=>exact hQ _ _ _ he
    |outgrown=>exact he
   case row row args=>exact⟨h.1,RowsIn.mono h.2 fun u w'' he=>⟨keep a hy u,by rw[<-Act.put_comm a v u h2];exact he⟩⟩
   case round l f tmps assign body=>
    refine⟨h.1,RoundIn.mono h.2 fun e w'' he=>?_⟩;cases e with
    |returned u=>exact⟨keep a hy u,by rw[<-Act.put_comm a v u h2];exact he⟩
    |panicked c=>exact hQ _ _ _ he
    |outgrown=>exact he
  |halt x w'=>
   cases x<;>simp only[Oper.uponIn]at h ⊢;case panic u=>exact hQ _ _ _ h
 ·rename_i hw;simp only[hw]at h;exact⟨h.1,keep a hy _,by rw[<-Act.put_comm a v undef h2];exact h.2⟩
def AnyF(F:Fence)(n:Nat)(P:Program)(md:Region.Mode)(ops:Array Oper)(Q:Exit->Act->World->Prop)(S:World->Prop)(X:List Nat)(f:Nat)(L:Array Bool)(a:Act)(w:World):Prop:=
 match f with
 |0=>Region.ready md ops L=[]/\Q .normal a w
 |f+1=>(Region.ready md ops L=[]->Q .normal a w)/\
  ∀i∈Region.ready md ops L,wpOpIn F n P ops Q i (fun a' w'=>(X.contains i=false->S w')/\AnyF F n P md ops Q S X f (L.setIfInBounds i true) a' w') a w
theorem AnyF.any{f:Nat}:∀{L:Array Bool}{a:Act}{w:World},AnyF F n P md ops Q S X f L a w->wpAnyIn F n P md ops Q f L a w:=by
 induction f with
 |zero=>intro L a w h;exact h
 |succ f ih=>intro L a w h;exact⟨h.1,fun i hi=>wpOpIn_mono (fun _ _ k=>ih k.2) (h.2 i hi)⟩
def Jv(md:Region.Mode)(ops:Array Oper)(L:Array Bool):Prop:=
 ∀k o,ops[k]? =some o->L.getD k false=true->∀e∈o.after,Region.binds md e=true->L.getD e.on false=true
def leads(md:Region.Mode)(ops:Array Oper):Nat->Nat->Nat->Bool
 |0,_,_=>false
 |f+1,x,i=>match ops[x]? with
  |some o=>o.after.any (fun e=>Region.binds md e&&(e.on==i||leads md ops f e.on i))
  |none=>false
theorem QZ{L:Array Bool}(hc:Jv md ops L){i:Nat}(f:Nat):∀x,leads md ops f x i=true->(∀o,ops[x]? =some o->∀e∈o.after,Region.binds md e=true->L.getD e.on false=true)->L.getD i false=true:=by
 induction f with
 |zero=>intro x h _;simp[leads]at h
 |succ f ih=>
  intro x h hx;unfold leads at h;cases ho:ops[x]? with
  |none=>rw[ho]at h;simp at h
  |some o=>
   rw[ho]at h;dsimp only at h;obtain⟨e,he,hb⟩:=Array.any_eq_true'.1 h;simp only[Bool.and_eq_true,Bool.or_eq_true,beq_iff_eq]at hb;have hl:=hx o ho e he hb.1;rcases hb.2 with q|q
   ·rw[<-q];exact hl
   ·exact ih e.on q (fun o' ho' e' he' hb'=>hc e.on o' ho' hl e' he' hb')
theorem Jv.set{L:Array Bool}(hc:Jv md ops L){j:Nat}(hj:j∈Region.ready md ops L):Jv md ops (L.setIfInBounds j true):=by
 intro k o ho hk e he hb;obtain⟨hun,oj,hoj,hall⟩:=mem_ready.1 hj;by_cases q:j=k
 ·subst q;rw[hoj]at ho;cases ho;exact getD_set_true (hall e he hb)
 ·rw[getD_set_ne false q]at hk;exact getD_set_true (hc k o ho hk e he hb)
theorem MC{i:Nat}{L:Array Bool}(h:i∈Region.ready md ops L):L.getD i false=false:=by
 have h0:=(mem_ready.1 h).1;by_cases hl:i<L.size
 ·simp[hl]at h0 ⊢;exact h0
 ·simp[Array.getElem?_eq_none (Nat.le_of_not_lt hl)]
theorem AnyF.takes{i:Nat}{oi:Oper}{v:Value}(hro:F.round=none)(hi:ops[i]? =some oi)(hs:Region.noSelect ops=true)
 (hX:∀x,X.contains x=true->leads md ops ops.size x i=true)
 (hQ:∀c a w,Q (.panic c) (a.put oi.dst v) w->Q (.panic c) a w)(f:Nat):∀{L:Array Bool}{a:Act}{w:World},Jv md ops L->
 (∀j oj,ops[j]? =some oj->j≠i->L.getD j true=false->(∀e∈oj.after,Region.binds md e=true->e.on≠i)->oi.apart ops oj=true)->
 i∈Region.ready md ops L->FC P ops S oi v a->S w->AnyF F n P md ops Q S X f (L.setIfInBounds i true) (a.put oi.dst v) w->AnyF F n P md ops Q S X (f+1) L a w:=by
 have sel:=Region.noSelect_spec hs;induction f with
 |zero=>
  intro L a w _ _ hr hy hS H;refine⟨fun e=>absurd hr (by rw[e];simp),fun j hj=>?_⟩;by_cases e:j=i
  ·subst e;exact hy.wpOpIn hro hi hS ⟨fun _=>hS,H⟩
  ·have:=ready_mono hj e;rw[H.1]at this;simp at this
 |succ f ih=>
  intro L a w hcl hfree hr hy hS H;refine⟨fun e=>absurd hr (by rw[e];simp),fun j hj=>?_⟩;by_cases e:j=i
  ·subst e;exact hy.wpOpIn hro hi hS ⟨fun _=>hS,H⟩
  ·obtain⟨hun,oj,hoj,hall⟩:=mem_ready.1 hj;have un:=MC hr;have apart:∀x∈oj.after,Region.binds md x=true->x.on≠i:=fun x hx hb hq=>by
    have:=hall x hx hb;rw[hq,un]at this;cases this
   have hjX:X.contains j=false:=by
    cases hc:X.contains j
    ·rfl
    ·have:=QZ hcl ops.size j (hX j hc) (fun o ho e he hb=>by rw[hoj]at ho;cases ho;exact hall e he hb);rw[un]at this;cases this
   refine wpOpIn_mono (fun a' w' k=>⟨fun _=>k.2.1 hjX,?_⟩) (SQ hro hoj (hfree j oj hoj e hun apart) (fun cs b=>sel i oi cs b hi) (fun cs b=>sel j oj cs b hoj) hQ hy (H.2 j (ready_mono hj e)));refine ih (hcl.set hj) (fun k ok hk hki hkl hkn=>hfree k ok hk hki ?_ hkn) (ready_mono hr (Ne.symm e)) k.1 (k.2.1 hjX) ?_
   ·by_cases q:j=k
    ·subst q;exact hun
    ·rw[getD_set_ne true q]at hkl;exact hkl
   ·rw[Array.setIfInBounds_comm _ _ e];exact k.2.2
def MG(md:Region.Mode)(ops:Array Oper)(L:Array Bool):Bool:=
 (List.range ops.size).all fun k=> !(L.getD k false)||match ops[k]? with
   |some o=>o.after.all (fun e=> !(Region.binds md e)||L.getD e.on false)
   |none=>true
theorem Q7{L:Array Bool}(h:MG md ops L=true):Jv md ops L:=by
 intro k o ho hk e he hb;unfold MG at h;rw[List.all_eq_true]at h;have:=h k (List.mem_range.2 (Array.getElem?_eq_some_iff.1 ho).1);rw[hk,ho]at this;simp only[Bool.not_true,Bool.false_or]at this;have:=(Array.all_eq_true'.1 this) e he;rw[hb]at this;simpa using this
theorem AnyF.takeD{i d:Nat}{oi:Oper}(v:Value){f:Nat}{L:Array Bool}{a:Act}{w:World}(hro:F.round=none)(hi:ops[i]? =some oi)(hd:oi.dst=some d)(hs:Region.noSelect ops=true)(hf:Region.free md ops L i=true)
 (hr:(Region.ready md ops L).contains i=true)(hcl:MG md ops L=true)(hX:X.all (fun x=>leads md ops ops.size x i)=true)(hQ:∀c a w,Q (.panic c) (a.put (some d) v) w->Q (.panic c) a w)(hS:S w)
 (hy:YieldsIf P ops S oi v a)(hab:∀w,oi.about P w a.eval=none)(h:AnyF F n P md ops Q S X f (L.setIfInBounds i true) (a.put (some d) v) w):AnyF F n P md ops Q S X (f+1) L a w:=
 AnyF.takes (v:=v) hro hi hs (fun x hx=>List.all_eq_true.1 hX x (by simpa using hx)) (by rw[hd];exact hQ) f (Q7 hcl) (Region.free_spec hi hf) (by simpa using hr) ⟨hy,hab⟩ hS (by rw[hd];exact h)
theorem AnyF.skip{i d:Nat}{oi:Oper}{f:Nat}{L:Array Bool}{a:Act}{w:World}(hro:F.round=none)(hi:ops[i]? =some oi)(hd:oi.dst=some d)(hs:Region.noSelect ops=true)(hf:Region.free md ops L i=true)
 (hr:(Region.ready md ops L).contains i=true)(hcl:MG md ops L=true)(hX:X.all (fun x=>leads md ops ops.size x i)=true)(hQ:∀c a w,Q (.panic c) (a.put (some d) undef) w->Q (.panic c) a w)(hS:S w)
 (hun:Region.wanted oi (yielded ops a.tmps)=false)(hab:∀w,oi.about P w a.eval=none)(h:AnyF F n P md ops Q S X f (L.setIfInBounds i true) (a.put (some d) undef) w):AnyF F n P md ops Q S X (f+1) L a w:=
 AnyF.takeD undef hro hi hd hs hf hr hcl hX hQ hS (Or.inr ⟨hun,rfl⟩) hab h
theorem AnyF.one{i:Nat}{o:Oper}{f:Nat}{L:Array Bool}{a:Act}{w:World}(hi:ops[i]? =some o)(hr:Region.ready md ops L=[i])
 (h:∀K':Act->World->Prop,Hid (∀a w,(X.contains i=false->S w)->AnyF F n P md ops Q S X f (L.setIfInBounds i true) a w->K' a w)->if Region.wanted o (yielded ops a.tmps)=true then Oper.wpIn F n P o a w K' Q else(∀f,o.about P w a.eval=some f->F.fn f)/\K' (a.put o.dst undef) w):AnyF F n P md ops Q S X (f+1) L a w:=
 ⟨fun e=>absurd (hr.symm.trans e) (by simp),fun j hj=>by
   rw[hr]at hj;obtain rfl:j=i:=by simpa using hj
   exact wpOpIn_step hi (fun K' hK=>h K' (fun a w h1 h2=>hK a w ⟨h1,h2⟩))⟩
theorem AnyF.done{f:Nat}{L:Array Bool}{a:Act}{w:World}(hr:Region.ready md ops L=[])(h:Q .normal a w):AnyF F n P md ops Q S X f L a w:=by
 cases f with
 |zero=>exact⟨hr,h⟩
 |succ f=>exact⟨fun _=>h,fun i hi=>by rw[hr]at hi;simp at hi⟩
theorem AnyF.region{id:Nat}{a:Act}{w:World}(S:World->Prop)(X:List Nat)(hm:P.follows .mixedOrders=true)(h:AnyF F n P .any ops Q S X ops.size (Array.replicate ops.size false) a w.drew):(Code.region id ops true).wpIn F n P Q a w:=
 wpIn_region_any hm h.any
end
open Go.Shelf Go.Proofs.Tryz
attribute [local go_sem] Oper.semAt_some
theorem aR{p:Prop}(h:p):Hid p:=h
def Ht(ba:Int)(na:Nat)(fa ga:Nat->Int)(bb:Int)(nb:Nat)(fb gb:Nat->Int)(x:Int):Bool:=
 ((look fa ga na x).isSome||(look fb gb nb x).isSome)&&decide (EZ bb nb fb gb x<EZ ba na fa ga x)
structure JA(W:World)(A B:Nat)(ba:Int)(aa:Option Addr)(na ka:Nat)(fa ga:Nat->Int)(bb:Int)(ab:Option Addr)(nb kb:Nat)(fb gb:Nat->Int):Prop where
 ltA:A<W.heap.size
 ltB:B<W.heap.size
 a0:W.cell? ⟨A,0,none⟩=some (.int .i64 ba)
 a1:W.cell? ⟨A,1,none⟩=some (.slice aa na ka)
 b0:W.cell? ⟨B,0,none⟩=some (.int .i64 bb)
 b1:W.cell? ⟨B,1,none⟩=some (.slice ab nb kb)
 ca:AX W aa na fa ga
 cb:AX W ab nb fb gb
theorem JA.below{W W':World}{A B:Nat}{ba:Int}{aa:Option Addr}{na ka:Nat}{fa ga:Nat->Int}{bb:Int}{ab:Option Addr}{nb kb:Nat}{fb gb:Nat->Int}
 (h:JA W A B ba aa na ka fa ga bb ab nb kb fb gb)(hb:Below W W W'):JA W' A B ba aa na ka fa ga bb ab nb kb fb gb:=
 ⟨Nat.lt_of_lt_of_le h.ltA hb.size,Nat.lt_of_lt_of_le h.ltB hb.size,(hb.cell (p:=⟨A,0,none⟩) h.ltA).trans h.a0,(hb.cell (p:=⟨A,1,none⟩) h.ltA).trans h.a1,
   (hb.cell (p:=⟨B,0,none⟩) h.ltB).trans h.b0,(hb.cell (p:=⟨B,1,none⟩) h.ltB).trans h.b1,h.ca.below hb,h.cb.below hb⟩
theorem OQ(l A B:Nat)(ba:Int)(aa:Option Addr)(na ka:Nat)(fa ga:Nat->Int)(bb:Int)(ab:Option Addr)(nb kb:Nat)(fb gb:Nat->Int)(J Jx:List Int->World->Prop)(w:World)
 (ma:na<=1048576)(mb:nb<=1048576)(hwa:∀i,i<na->(Lit.int .i64 (fa i)).wf=true/\(Lit.int .i64 (ga i)).wf=true)(hwb:∀i,i<nb->(Lit.int .i64 (fb i)).wf=true/\(Lit.int .i64 (gb i)).wf=true)
 (hL:JA w A B ba aa na ka fa ga bb ab nb kb fb gb)(hJ:AbidesFrom w J)
 (hY:∀pre x W1,J pre W1->pre.length<na+nb->YieldAt Fence.wide 2 prog l #[.int .i64 x] W1 fun e W'=>
   (e= .returned (.bool true)/\J (pre++[x]) W'/\BF W1 W')∨(e= .returned (.bool false)/\Jx (pre++[x]) W'))(h0:J [] w):
 Calls prog 75 #[.func (.yield l) #[] #[],.pointer A,.pointer B] w fun e W'=>(∃v,e= .returned v)/\
  ((∃xs,(∀x,x∈xs↔Ht ba na fa ga bb nb fb gb x=true)/\J xs W')∨(∃pre,(∀x,x∈pre->Ht ba na fa ga bb nb fb gb x=true)/\Jx pre W')):=by
 have HWA:Hid (∀i,i<na->(Lit.int .i64 (fa i)).wf=true/\(Lit.int .i64 (ga i)).wf=true):=hwa;have HWB:Hid (∀i,i<nb->(Lit.int .i64 (fb i)).wf=true/\(Lit.int .i64 (gb i)).wf=true):=hwb;clear hwa hwb;have HJ:Hid (∀W',Below w w W'->J [] W'):=fun W' hb=>hJ [] w W' none h0 (Ha hb) (fun r e=>by cases e);have HL:Hid (JA w A B ba aa na ka fa ga bb ab nb kb fb gb):=hL;obtain⟨lA,lB,x1,x2,x3,x4,hca,hcb⟩:=hL;have n5:Na #[.agg #[.int .i64 ba,.slice aa na ka]]:=⟨⟩;have levA:∀W,Below w w W->Calls prog 76 n5 W fun e w'=>∃c,e= .returned (.agg #[.int .i64 ba,.map (some c)])/\W.heap.size<=c/\Br w' c na (look fa ga na)/\(∀b o,b<W.heap.size->w'.cell? ⟨b,o,none⟩=W.cell? ⟨b,o,none⟩)/\(∀b o,b<W.heap.size->w'.frozen? ⟨b,o,none⟩=W.frozen? ⟨b,o,none⟩)/\(∀V:World,V.heap.size<=W.heap.size->V.heap.size+3<w'.heap.size)/\Below w w w'/\Below W W w'/\(w'.heap.size≠A/\w'.heap.size≠B/\w'.heap.size+1≠A/\w'.heap.size+1≠B)/\(w.heap.size<w'.heap.size/\w.heap.size+1<w'.heap.size/\w'.heap.size≠w.heap.size/\w'.heap.size≠w.heap.size+1/\w'.heap.size+1≠w.heap.size)/\w'.cell? ⟨A,0,none⟩=some (.int .i64 ba)/\w'.cell? ⟨A,1,none⟩=some (.slice aa na ka)/\w'.cell? ⟨B,0,none⟩=some (.int .i64 bb)/\w'.cell? ⟨B,1,none⟩=some (.slice ab nb kb):=fun W hW=>by
  refine(KM ba aa na ka fa ga W ma (hca.below hW) HWA).mono ?_;rintro e w' ⟨c,rfl,hl,hm,hz,hb⟩;have hW':=hW.trans (hb.mono hW.size);obtain⟨q,p⟩:=JP hb;have hs:=hW'.size;have hs0:=hW.size;exact⟨c,rfl,hl,hm,q,p,fun V hV=>by omega,hW',hb,by omega,bT (by omega),(hW'.cell (p:=⟨_,_,none⟩) lA).trans x1,(hW'.cell (p:=⟨_,_,none⟩) lA).trans x2,(hW'.cell (p:=⟨_,_,none⟩) lB).trans x3,(hW'.cell (p:=⟨_,_,none⟩) lB).trans x4⟩
 have HlevA:Hid (∀W,Below w w W->Calls prog 76 n5 W fun e w'=>∃c,e= .returned (.agg #[.int .i64 ba,.map (some c)])/\W.heap.size<=c/\Br w' c na (look fa ga na)/\(∀b o,b<W.heap.size->w'.cell? ⟨b,o,none⟩=W.cell? ⟨b,o,none⟩)/\(∀b o,b<W.heap.size->w'.frozen? ⟨b,o,none⟩=W.frozen? ⟨b,o,none⟩)/\(∀V:World,V.heap.size<=W.heap.size->V.heap.size+3<w'.heap.size)/\Below w w w'/\Below W W w'/\(w'.heap.size≠A/\w'.heap.size≠B/\w'.heap.size+1≠A/\w'.heap.size+1≠B)/\(w.heap.size<w'.heap.size/\w.heap.size+1<w'.heap.size/\w'.heap.size≠w.heap.size/\w'.heap.size≠w.heap.size+1/\w'.heap.size+1≠w.heap.size)/\w'.cell? ⟨A,0,none⟩=some (.int .i64 ba)/\w'.cell? ⟨A,1,none⟩=some (.slice aa na ka)/\w'.cell? ⟨B,0,none⟩=some (.int .i64 bb)/\w'.cell? ⟨B,1,none⟩=some (.slice ab nb kb)):=levA;clear levA;have n6:Na #[.agg #[.int .i64 bb,.slice ab nb kb]]:=⟨⟩;have levB:∀W,Below w w W->Calls prog 76 n6 W fun e w'=>∃c,e= .returned (.agg #[.int .i64 bb,.map (some c)])/\W.heap.size<=c/\Br w' c nb (look fb gb nb)/\(∀b o,b<W.heap.size->w'.cell? ⟨b,o,none⟩=W.cell? ⟨b,o,none⟩)/\(∀b o,b<W.heap.size->w'.frozen? ⟨b,o,none⟩=W.frozen? ⟨b,o,none⟩)/\(∀V:World,V.heap.size<=W.heap.size->V.heap.size+3<w'.heap.size)/\Below w w w'/\Below W W w'/\(w'.heap.size≠A/\w'.heap.size≠B/\w'.heap.size+1≠A/\w'.heap.size+1≠B)/\(w.heap.size<w'.heap.size/\w.heap.size+1<w'.heap.size/\w'.heap.size≠w.heap.size/\w'.heap.size≠w.heap.size+1/\w'.heap.size+1≠w.heap.size)/\w'.cell? ⟨A,0,none⟩=some (.int .i64 ba)/\w'.cell? ⟨A,1,none⟩=some (.slice aa na ka)/\w'.cell? ⟨B,0,none⟩=some (.int .i64 bb)/\w'.cell? ⟨B,1,none⟩=some (.slice ab nb kb):=fun W hW=>by
  refine(KM bb ab nb kb fb gb W mb (hcb.below hW) HWB).mono ?_;rintro e w' ⟨c,rfl,hl,hm,hz,hb⟩;have hW':=hW.trans (hb.mono hW.size);obtain⟨q,p⟩:=JP hb;have hs:=hW'.size;have hs0:=hW.size;exact⟨c,rfl,hl,hm,q,p,fun V hV=>by omega,hW',hb,by omega,bT (by omega),(hW'.cell (p:=⟨_,_,none⟩) lA).trans x1,(hW'.cell (p:=⟨_,_,none⟩) lA).trans x2,(hW'.cell (p:=⟨_,_,none⟩) lB).trans x3,(hW'.cell (p:=⟨_,_,none⟩) lB).trans x4⟩
 have HlevB:Hid (∀W,Below w w W->Calls prog 76 n6 W fun e w'=>∃c,e= .returned (.agg #[.int .i64 bb,.map (some c)])/\W.heap.size<=c/\Br w' c nb (look fb gb nb)/\(∀b o,b<W.heap.size->w'.cell? ⟨b,o,none⟩=W.cell? ⟨b,o,none⟩)/\(∀b o,b<W.heap.size->w'.frozen? ⟨b,o,none⟩=W.frozen? ⟨b,o,none⟩)/\(∀V:World,V.heap.size<=W.heap.size->V.heap.size+3<w'.heap.size)/\Below w w w'/\Below W W w'/\(w'.heap.size≠A/\w'.heap.size≠B/\w'.heap.size+1≠A/\w'.heap.size+1≠B)/\(w.heap.size<w'.heap.size/\w.heap.size+1<w'.heap.size/\w'.heap.size≠w.heap.size/\w'.heap.size≠w.heap.size+1/\w'.heap.size+1≠w.heap.size)/\w'.cell? ⟨A,0,none⟩=some (.int .i64 ba)/\w'.cell? ⟨A,1,none⟩=some (.slice aa na ka)/\w'.cell? ⟨B,0,none⟩=some (.int .i64 bb)/\w'.cell? ⟨B,1,none⟩=some (.slice ab nb kb)):=levB;clear levB;have HE00:Hid (Below w w w.drew):=(Below.refl _ _).drew;have HE0:Hid (∀o,Below w w (w.alloc o).drew):=fun o=>((Below.refl _ _).alloc nr o).drew;have HE000:Hid (∀o o',Below w w ((w.alloc o).alloc o').drew):=fun o o'=>(((Below.refl _ _).alloc nr o).alloc (by simp) o').drew;have HY:=aR hY;have HJ0:=aR hJ;clear hY hJ h0 hca hcb;have n1:w.heap.size≠A:=by omega
 have n2:w.heap.size≠B:=by omega
 have n3:w.heap.size+1≠A:=by omega
 have n4:w.heap.size+1≠B:=by omega
 go_enter func75,ntmps75
 go_upto_region 0 with fail
 go_cut[4,5] (fun p q wc=>∃P Q c d:Nat,p= .pointer P/\q= .pointer Q/\Cd wc P (.int .i64 ba) (.map (some c))/\Cd wc Q (.int .i64 bb) (.map (some d))/\Br wc c na (look fa ga na)/\Br wc d nb (look fb gb nb)/\Below w w wc)
 case first=>
  go_region_held3(fun w'=>w'.cell? ⟨A,0,none⟩=some (.int .i64 ba)/\w'.cell? ⟨A,1,none⟩=some (.slice aa na ka)/\w'.cell? ⟨B,0,none⟩=some (.int .i64 bb)/\w'.cell? ⟨B,1,none⟩=some (.slice ab nb kb)) (first|go_keep|(simp[*]))
   (first
     |(go_at_call 76;have hb1':=hb1;clear hb1';refine(HlevB _ ?hB).mono ?_;(case hB=>first|exact E1|exact E1.alloc E1.size _|exact(E1.alloc E1.size _).alloc (E1.alloc E1.size _).size _);rintro e v2 ⟨c2,rfl,hl2,m2,qb,pb,rb,E2,hb2,⟨s1,s2,s3,s4⟩,⟨g1,g2,g3,g4,g5⟩,y1,y2,y3,y4⟩;have rb':=rb v1 (by simp;try omega);obtain⟨f1,f2,f3,f4,f5⟩:=bT rb')
     |(go_at_call 76;refine(HlevA _ ?hB).mono ?_;(case hB=>first|exact HE00.out|exact HE0.out _|exact HE000.out _ _);rintro e v1 ⟨c1,rfl,hl1,m1,qa,pa,ra,E1,hb1,⟨r1,r2,r3,r4⟩,⟨d1,d2,d3,d4,d5⟩,p1,p2,p3,p4⟩))
  all_goals
   have l1:=m1.lt;have l2:=m2.lt;try simp at hl1
   try simp at hl2
   clear qa pa qb pb HlevA HlevB;have E3:Below w w v2:=E2;go_wp2_with fail
   go_meet;case rel=>
    refine⟨_,_,c1,c2,rfl,rfl,?_,?_,?_,?_,?_⟩
    ·repeat(first|(with_reducible refine Cd.new' ?_;simp;done)|with_reducible refine Cd.set01 ?_ _ _|(with_reducible refine Cd.other ?_ ?_ _;rotate_left;(dsimp only;omega))|with_reducible refine Cd.alloc ?_ _)
     all_goals repeat(first|(with_reducible refine Gi.new' ?_;simp;done)|(with_reducible refine Gi.other ?_ ?_ _;rotate_left;(dsimp only;omega))|with_reducible refine Gi.alloc ?_ _|with_reducible refine Gi.drew ?_|with_reducible refine Gi.below ?_ hb2|with_reducible refine Gi.below ?_ hb1)
    ·repeat(first|(with_reducible refine Cd.new' ?_;simp;done)|with_reducible refine Cd.set01 ?_ _ _|(with_reducible refine Cd.other ?_ ?_ _;rotate_left;(dsimp only;omega))|with_reducible refine Cd.alloc ?_ _)
     all_goals repeat(first|(with_reducible refine Gi.new' ?_;simp;done)|(with_reducible refine Gi.other ?_ ?_ _;rotate_left;(dsimp only;omega))|with_reducible refine Gi.alloc ?_ _|with_reducible refine Gi.drew ?_|with_reducible refine Gi.below ?_ hb2|with_reducible refine Gi.below ?_ hb1)
    ·repeat(first|with_reducible exact m1|(with_reducible refine Br.setCell ?_ ?_ _;rotate_left;(dsimp only;omega))|with_reducible refine Br.alloc ?_ _|with_reducible refine Br.below ?_ hb2)
    ·repeat(first|with_reducible exact m2|(with_reducible refine Br.setCell ?_ ?_ _;rotate_left;(dsimp only;omega))|with_reducible refine Br.alloc ?_ _)
    ·repeat(first|with_reducible exact E3|(with_reducible refine Below.setCell ?_ ?_ _;rotate_left;(dsimp only;omega))|(with_reducible refine Below.alloc ?_ ?_ _;rotate_left;(first|omega|(simp;omega))))
 case rest=>
  obtain⟨P,Q,c,d,rfl,rfl,u1,u2,m1,m2,Bc⟩:=hcut;obtain⟨a1,a2⟩:=u1.cells;obtain⟨a3,a4⟩:=u2.cells;have lP:=u1.lt;have lQ:=u2.lt;clear u1 u2 n1 n2 n3 n4 x1 x2 x3 x4 HE00 HE0 HE000 HlevA HlevB HWA HWB;rename_i QQ KK hKK;refine hKK _ _ ((wpIn_wide (n:=3)).1 ?_);clear hKK KK;have hmix:prog.follows .mixedOrders=true:=by kernel_rfl
  gi_wp2_with fail;refine⟨trivial,?_⟩;refine(callsIn_wide.2 (Sp _ _ _ _ _ _ _ _ _ m1 m2 (by omega))).mono ?_;rintro e w3 ⟨a,n,cap,h,rfl,hle,hat,hmem,hris,hwf,hb3⟩;have b1:=(hb3.cell (p:=⟨P,0,none⟩) lP).trans a1;have b2:=(hb3.cell (p:=⟨P,1,none⟩) lP).trans a2;have b3:=(hb3.cell (p:=⟨Q,0,none⟩) lQ).trans a3;have b4:=(hb3.cell (p:=⟨Q,1,none⟩) lQ).trans a4;have M1:=m1.below hb3;have M2:=m2.below hb3;have lP3:P<w3.heap.size:=Nat.lt_of_lt_of_le lP hb3.size;have lQ3:Q<w3.heap.size:=Nat.lt_of_lt_of_le lQ hb3.size;have J3:Hid (J [] w3):=HJ.out _ (Bc.trans (hb3.mono Bc.size));have HM:Hid (∀x,(∃i,i<n/\h i=x)↔((look fa ga na x).isSome||(look fb gb nb x).isSome)=true):=hmem;have HWF:Hid (∀i,i<n->(Lit.int .i64 (h i)).wf=true):=hwf;have HR:Hid (∀j,j<n->∀i,i<j->h i<h j):=hris;clear a1 a2 a3 a4 m1 m2 hmem hwf hris lP lQ hb3 Bc HJ HL lA lB;gi_wp2;gi_loopw [16] (fun i wr=>∃(k:Nat) (pre:List Int),k<=n/\i= .int .i64 k/\pre.length<=k/\(∀x,x∈pre↔(∃j,j<k/\h j=x)/\EZ bb nb fb gb x<EZ ba na fa ga x)/\J pre wr/\BF w3 wr) (fun i _=>n-(intOf i).toNat);case atStart=>exact⟨0,[],Nat.zero_le _,rfl,Nat.le_refl _,fun x=>by simp,J3,BF.refl _⟩
  case round=>
   obtain⟨k,pre,hk,rfl,hpl,hpre,hJp,hK⟩:=hrel;have HP:Hid (∀x,x∈pre↔(∃j,j<k/\h j=x)/\EZ bb nb fb gb x<EZ ba na fa ga x):=hpre;have HJp:Hid (J pre wr):=hJp;clear hpre hJp;by_cases hlt':k<n
   ·obtain⟨b,off,rfl,hlt,hcc⟩:=hat (by omega);have r5:=hK.cell (hcc k hlt');have r1:=hK.cell b1;have r2:=hK.cell b2;have r3:=hK.cell b3;have r4:=hK.cell b4;have lPr:P<wr.heap.size:=Nat.lt_of_lt_of_le lP3 hK.size;have lQr:Q<wr.heap.size:=Nat.lt_of_lt_of_le lQ3 hK.size;have N1:Br wr.drew c na (look fa ga na):=(hK.map M1).below (Below.refl _ _).drew;have N2:Br wr.drew d nb (look fb gb nb):=(hK.map M2).below (Below.refl _ _).drew;have HWX:Hid ((Lit.int .i64 (h k)).wf=true):=HWF.out k hlt';clear hcc hat b1 b2 b3 b4 M1 M2;by_cases t5:EZ bb nb fb gb (h k)<EZ ba na fa ga (h k)
    ·have hyk:Hid (∀W,Below wr wr W->YieldAt Fence.wide 2 prog l #[.int .i64 (h k)] W fun e W'=>
      (e= .returned (.bool true)/\J (pre++[h k]) W'/\BF W W')∨(e= .returned (.bool false)/\Jx (pre++[h k]) W')):=fun W hb=>
      HY pre (h k) W (HJ0 pre wr W none HJp (Ha hb) (fun r e=>by cases e)) (by omega)
     gi_wp2_with fail;refine AnyF.region (fun w'=>w'.cell? ⟨P,0,none⟩=some (.int .i64 ba)/\w'.cell? ⟨P,1,none⟩=some (.map (some c))/\w'.cell? ⟨Q,0,none⟩=some (.int .i64 bb)/\w'.cell? ⟨Q,1,none⟩=some (.map (some d))) [10,11,12] hmix ?_;have S0:wr.drew.cell? ⟨P,0,none⟩=some (.int .i64 ba)/\wr.drew.cell? ⟨P,1,none⟩=some (.map (some c))/\wr.drew.cell? ⟨Q,0,none⟩=some (.int .i64 bb)/\wr.drew.cell? ⟨Q,1,none⟩=some (.map (some d)):=⟨r1,r2,r3,r4⟩;refine AnyF.takeD (i:=0) (d:=20) (.agg #[.int .i64 ba,.map (some c)]) rfl rfl rfl (by kernel_rfl) (by kernel_rfl) (by kernel_rfl) (by kernel_rfl) (by kernel_rfl) (fun _ _ _ h=>h) S0 (Or.inl ⟨by rfl,fun w' h=>(by dsimp only at h;go_simp)⟩) (fun _=>by rfl) ?_;simp only[ap,List.set];refine AnyF.takeD (i:=1) (d:=21) (.int .i64 (h k)) rfl rfl rfl (by kernel_rfl) (by kernel_rfl) (by kernel_rfl) (by kernel_rfl) (by kernel_rfl) (fun _ _ _ h=>h) S0 (Or.inl ⟨by rfl,fun w' h=>(by dsimp only at h;go_simp)⟩) (fun _=>by rfl) ?_;simp only[ap,List.set];refine AnyF.takeD (i:=3) (d:=23) (.agg #[.int .i64 bb,.map (some d)]) rfl rfl rfl (by kernel_rfl) (by kernel_rfl) (by kernel_rfl) (by kernel_rfl) (by kernel_rfl) (fun _ _ _ h=>h) S0 (Or.inl ⟨by rfl,fun w' h=>(by dsimp only at h;go_simp)⟩) (fun _=>by rfl) ?_;simp only[ap,List.set];refine AnyF.takeD (i:=4) (d:=24) (.int .i64 (h k)) rfl rfl rfl (by kernel_rfl) (by kernel_rfl) (by kernel_rfl) (by kernel_rfl) (by kernel_rfl) (fun _ _ _ h=>h) S0 (Or.inl ⟨by rfl,fun w' h=>(by dsimp only at h;go_simp)⟩) (fun _=>by rfl) ?_;simp only[ap,List.set];refine AnyF.one (i:=2) rfl (by kernel_rfl) (fun K1 hK1=>?_);go_simp;refine⟨trivial,?_⟩;refine(callsIn_wide.2 (Qf ba c na fa ga (h k) _ N1 HWX)).mono ?_;rintro e v1 ⟨rfl,hb1⟩;have S1:v1.cell? ⟨P,0,none⟩=some (.int .i64 ba)/\v1.cell? ⟨P,1,none⟩=some (.map (some c))/\v1.cell? ⟨Q,0,none⟩=some (.int .i64 bb)/\v1.cell? ⟨Q,1,none⟩=some (.map (some d)):=⟨(hb1.cell (p:=⟨P,0,none⟩) lPr).trans r1,(hb1.cell (p:=⟨P,1,none⟩) lPr).trans r2,(hb1.cell (p:=⟨Q,0,none⟩) lQr).trans r3,(hb1.cell (p:=⟨Q,1,none⟩) lQr).trans r4⟩;refine hK1 _ _ (fun _=>S1) ?_;clear hK1 K1;refine AnyF.one (i:=5) rfl (by kernel_rfl) (fun K1 hK1=>?_);go_simp;refine⟨trivial,?_⟩;refine(callsIn_wide.2 (Qf bb d nb fb gb (h k) _ (N2.below hb1) HWX)).mono ?_;rintro e v2 ⟨rfl,hb2⟩;have lPv:P<v1.heap.size:=Nat.lt_of_lt_of_le lPr hb1.size;have lQv:Q<v1.heap.size:=Nat.lt_of_lt_of_le lQr hb1.size;have S2:v2.cell? ⟨P,0,none⟩=some (.int .i64 ba)/\v2.cell? ⟨P,1,none⟩=some (.map (some c))/\v2.cell? ⟨Q,0,none⟩=some (.int .i64 bb)/\v2.cell? ⟨Q,1,none⟩=some (.map (some d)):=⟨(hb2.cell (p:=⟨P,0,none⟩) lPv).trans S1.1,(hb2.cell (p:=⟨P,1,none⟩) lPv).trans S1.2.1,(hb2.cell (p:=⟨Q,0,none⟩) lQv).trans S1.2.2.1,(hb2.cell (p:=⟨Q,1,none⟩) lQv).trans S1.2.2.2⟩;have B2:Below wr wr v2:=(((Below.refl _ wr).drew.trans hb1).trans (hb2.mono hb1.size));refine hK1 _ _ (fun _=>S2) ?_;clear hK1 K1 S0 S1 hb1 hb2;refine AnyF.takeD (i:=6) (d:=26) (.bool true) rfl rfl rfl (by kernel_rfl) (by kernel_rfl) (by kernel_rfl) (by kernel_rfl) (by kernel_rfl) (fun _ _ _ h=>h) S2 (Or.inl ⟨by rfl,fun w' h=>(by dsimp only at h;go_simp)⟩) (fun _=>by rfl) ?_;simp only[ap,List.set];refine AnyF.takeD (i:=7) (d:=27) (.bool true) rfl rfl rfl (by kernel_rfl) (by kernel_rfl) (by kernel_rfl) (by kernel_rfl) (by kernel_rfl) (fun _ _ _ h=>h) S2 (Or.inl ⟨by rfl,fun w' h=>(by dsimp only at h;go_simp)⟩) (fun _=>by rfl) ?_;simp only[ap,List.set];refine AnyF.takeD (i:=8) (d:=28) (.func (.yield l) #[] #[]) rfl rfl rfl (by kernel_rfl) (by kernel_rfl) (by kernel_rfl) (by kernel_rfl) (by kernel_rfl) (fun _ _ _ h=>h) S2 (Or.inl ⟨by rfl,fun w' h=>(by dsimp only at h;go_simp)⟩) (fun _=>by rfl) ?_;simp only[ap,List.set];refine AnyF.takeD (i:=9) (d:=29) (.int .i64 (h k)) rfl rfl rfl (by kernel_rfl) (by kernel_rfl) (by kernel_rfl) (by kernel_rfl) (by kernel_rfl) (fun _ _ _ h=>h) S2 (Or.inl ⟨by rfl,fun w' h=>(by dsimp only at h;go_simp)⟩) (fun _=>by rfl) ?_;simp only[ap,List.set];obtain⟨fn,tmps,assign,body,hy,hR⟩:=hyk.out v2 B2;refine AnyF.one (i:=10) rfl (by kernel_rfl) (fun K1 hK1=>?_);go_simp;refine hR.mono ?_;rintro e W3 (⟨rfl,hJ3,hk3⟩|⟨rfl,hJx3⟩)
     ·refine hK1 _ _ (fun h=>by simp at h) ?_;clear hK1 K1;refine AnyF.one (i:=11) rfl (by kernel_rfl) (fun K1 hK1=>?_);go_simp;refine hK1 _ _ (fun h=>by simp at h) ?_;clear hK1 K1;refine AnyF.one (i:=12) rfl (by kernel_rfl) (fun K1 hK1=>?_);go_simp;refine hK1 _ _ (fun h=>by simp at h) ?_;clear hK1 K1;refine AnyF.done (by kernel_rfl) ?_;gi_wp2;go_roundw;case rel=>
       refine⟨k+1,pre++[h k],by omega,by go_num,by simp;omega,fun x=>?_,hJ3,(hK.trans (BF.of_below B2)).trans hk3⟩;rw[List.mem_append,HP.out x];constructor
       ·rintro(⟨⟨j,hj,e⟩,q⟩|q)
        ·exact⟨⟨j,by omega,e⟩,q⟩
        ·obtain rfl:x=h k:=by simpa using q
         exact⟨⟨k,by omega,rfl⟩,t5⟩
       ·rintro⟨⟨j,hj,e⟩,q⟩;by_cases ej:j=k
        ·subst ej;subst e;exact .inr (by simp)
        ·exact .inl ⟨⟨j,by omega,e⟩,q⟩
      case measure=>simp[intOf];omega
     ·refine hK1 _ _ (fun h=>by simp at h) ?_;clear hK1 K1;refine AnyF.one (i:=11) rfl (by kernel_rfl) (fun K1 hK1=>?_);go_simp;refine hK1 _ _ (fun h=>by simp at h) ?_;clear hK1 K1;refine AnyF.one (i:=12) rfl (by kernel_rfl) (fun K1 hK1=>?_);go_simp;refine hK1 _ _ (fun h=>by simp at h) ?_;clear hK1 K1;refine AnyF.done (by kernel_rfl) ?_;gi_wp2;refine bodyPost_ret (results_none rfl _ _ _) rfl ?_;refine⟨⟨_,rfl⟩,.inr ⟨pre++[h k],fun x hx=>?_,hJx3⟩⟩;have hx2:(∃j,j<n/\h j=x)/\EZ bb nb fb gb x<EZ ba na fa ga x:=by
       rcases List.mem_append.1 hx with hx|hx
       ·obtain⟨⟨j,hj,e⟩,q⟩:=(HP x).1 hx;exact⟨⟨j,by omega,e⟩,q⟩
       ·obtain rfl:x=h k:=by simpa using hx
        exact⟨⟨k,hlt',rfl⟩,t5⟩
      have:=(HM x).1 hx2.1;unfold Ht;rw[this];simpa using hx2.2
    ·skip;gi_wp2_with fail;refine AnyF.region (fun w'=>w'.cell? ⟨P,0,none⟩=some (.int .i64 ba)/\w'.cell? ⟨P,1,none⟩=some (.map (some c))/\w'.cell? ⟨Q,0,none⟩=some (.int .i64 bb)/\w'.cell? ⟨Q,1,none⟩=some (.map (some d))) [] hmix ?_;have S0:wr.drew.cell? ⟨P,0,none⟩=some (.int .i64 ba)/\wr.drew.cell? ⟨P,1,none⟩=some (.map (some c))/\wr.drew.cell? ⟨Q,0,none⟩=some (.int .i64 bb)/\wr.drew.cell? ⟨Q,1,none⟩=some (.map (some d)):=⟨r1,r2,r3,r4⟩;refine AnyF.takeD (i:=0) (d:=20) (.agg #[.int .i64 ba,.map (some c)]) rfl rfl rfl (by kernel_rfl) (by kernel_rfl) (by kernel_rfl) (by kernel_rfl) (by kernel_rfl) (fun _ _ _ h=>h) S0 (Or.inl ⟨by rfl,fun w' h=>(by dsimp only at h;go_simp)⟩) (fun _=>by rfl) ?_;simp only[ap,List.set];refine AnyF.takeD (i:=1) (d:=21) (.int .i64 (h k)) rfl rfl rfl (by kernel_rfl) (by kernel_rfl) (by kernel_rfl) (by kernel_rfl) (by kernel_rfl) (fun _ _ _ h=>h) S0 (Or.inl ⟨by rfl,fun w' h=>(by dsimp only at h;go_simp)⟩) (fun _=>by rfl) ?_;simp only[ap,List.set];refine AnyF.takeD (i:=3) (d:=23) (.agg #[.int .i64 bb,.map (some d)]) rfl rfl rfl (by kernel_rfl) (by kernel_rfl) (by kernel_rfl) (by kernel_rfl) (by kernel_rfl) (fun _ _ _ h=>h) S0 (Or.inl ⟨by rfl,fun w' h=>(by dsimp only at h;go_simp)⟩) (fun _=>by rfl) ?_;simp only[ap,List.set];refine AnyF.takeD (i:=4) (d:=24) (.int .i64 (h k)) rfl rfl rfl (by kernel_rfl) (by kernel_rfl) (by kernel_rfl) (by kernel_rfl) (by kernel_rfl) (fun _ _ _ h=>h) S0 (Or.inl ⟨by rfl,fun w' h=>(by dsimp only at h;go_simp)⟩) (fun _=>by rfl) ?_;simp only[ap,List.set];refine AnyF.one (i:=2) rfl (by kernel_rfl) (fun K1 hK1=>?_);go_simp;refine⟨trivial,?_⟩;refine(callsIn_wide.2 (Qf ba c na fa ga (h k) _ N1 HWX)).mono ?_;rintro e v1 ⟨rfl,hb1⟩;have S1:v1.cell? ⟨P,0,none⟩=some (.int .i64 ba)/\v1.cell? ⟨P,1,none⟩=some (.map (some c))/\v1.cell? ⟨Q,0,none⟩=some (.int .i64 bb)/\v1.cell? ⟨Q,1,none⟩=some (.map (some d)):=⟨(hb1.cell (p:=⟨P,0,none⟩) lPr).trans r1,(hb1.cell (p:=⟨P,1,none⟩) lPr).trans r2,(hb1.cell (p:=⟨Q,0,none⟩) lQr).trans r3,(hb1.cell (p:=⟨Q,1,none⟩) lQr).trans r4⟩;refine hK1 _ _ (fun _=>S1) ?_;clear hK1 K1;refine AnyF.one (i:=5) rfl (by kernel_rfl) (fun K1 hK1=>?_);go_simp;refine⟨trivial,?_⟩;refine(callsIn_wide.2 (Qf bb d nb fb gb (h k) _ (N2.below hb1) HWX)).mono ?_;rintro e v2 ⟨rfl,hb2⟩;have lPv:P<v1.heap.size:=Nat.lt_of_lt_of_le lPr hb1.size;have lQv:Q<v1.heap.size:=Nat.lt_of_lt_of_le lQr hb1.size;have S2:v2.cell? ⟨P,0,none⟩=some (.int .i64 ba)/\v2.cell? ⟨P,1,none⟩=some (.map (some c))/\v2.cell? ⟨Q,0,none⟩=some (.int .i64 bb)/\v2.cell? ⟨Q,1,none⟩=some (.map (some d)):=⟨(hb2.cell (p:=⟨P,0,none⟩) lPv).trans S1.1,(hb2.cell (p:=⟨P,1,none⟩) lPv).trans S1.2.1,(hb2.cell (p:=⟨Q,0,none⟩) lQv).trans S1.2.2.1,(hb2.cell (p:=⟨Q,1,none⟩) lQv).trans S1.2.2.2⟩;have B2:Below wr wr v2:=(((Below.refl _ wr).drew.trans hb1).trans (hb2.mono hb1.size));refine hK1 _ _ (fun _=>S2) ?_;clear hK1 K1 S0 S1 hb1 hb2;refine AnyF.takeD (i:=6) (d:=26) (.bool false) rfl rfl rfl (by kernel_rfl) (by kernel_rfl) (by kernel_rfl) (by kernel_rfl) (by kernel_rfl) (fun _ _ _ h=>h) S2 (Or.inl ⟨by rfl,fun w' h=>(by dsimp only at h;go_simp)⟩) (fun _=>by rfl) ?_;simp only[ap,List.set];refine AnyF.takeD (i:=7) (d:=27) (.bool false) rfl rfl rfl (by kernel_rfl) (by kernel_rfl) (by kernel_rfl) (by kernel_rfl) (by kernel_rfl) (fun _ _ _ h=>h) S2 (Or.inl ⟨by rfl,fun w' h=>(by dsimp only at h;go_simp)⟩) (fun _=>by rfl) ?_;simp only[ap,List.set];refine AnyF.skip (i:=8) (d:=28) rfl rfl rfl (by kernel_rfl) (by kernel_rfl) (by kernel_rfl) (by kernel_rfl) (by kernel_rfl) (fun _ _ _ h=>h) S2 (by rfl) (fun _=>by rfl) ?_;simp only[ap,List.set];refine AnyF.skip (i:=9) (d:=29) rfl rfl rfl (by kernel_rfl) (by kernel_rfl) (by kernel_rfl) (by kernel_rfl) (by kernel_rfl) (fun _ _ _ h=>h) S2 (by rfl) (fun _=>by rfl) ?_;simp only[ap,List.set];refine AnyF.skip (i:=10) (d:=30) rfl rfl rfl (by kernel_rfl) (by kernel_rfl) (by kernel_rfl) (by kernel_rfl) (by kernel_rfl) (fun _ _ _ h=>h) S2 (by rfl) (fun _=>by rfl) ?_;simp only[ap,List.set];refine AnyF.skip (i:=11) (d:=31) rfl rfl rfl (by kernel_rfl) (by kernel_rfl) (by kernel_rfl) (by kernel_rfl) (by kernel_rfl) (fun _ _ _ h=>h) S2 (by rfl) (fun _=>by rfl) ?_;simp only[ap,List.set];refine AnyF.takeD (i:=12) (d:=32) (.bool false) rfl rfl rfl (by kernel_rfl) (by kernel_rfl) (by kernel_rfl) (by kernel_rfl) (by kernel_rfl) (fun _ _ _ h=>h) S2 (Or.inl ⟨by rfl,fun w' h=>(by dsimp only at h;go_simp)⟩) (fun _=>by rfl) ?_;simp only[ap,List.set];refine AnyF.done (by kernel_rfl) ?_;gi_wp2;go_roundw;case rel=>
      refine⟨k+1,pre,by omega,by go_num,by omega,fun x=>?_,HJ0 pre wr v2 none HJp (Ha B2) (fun r e=>by cases e),hK.trans (BF.of_below B2)⟩;rw[HP.out x];constructor
      ·rintro⟨⟨j,hj,e⟩,q⟩;exact⟨⟨j,by omega,e⟩,q⟩
      ·rintro⟨⟨j,hj,e⟩,q⟩;by_cases ej:j=k
       ·subst ej;subst e;exact absurd q (by omega)
       ·exact⟨⟨j,by omega,e⟩,q⟩
     case measure=>simp[intOf];omega
   ·clear hat b1 b2 b3 b4 M1 M2;gi_wp2;go_end0;refine⟨⟨_,rfl⟩,.inl ⟨pre,fun x=>?_,HJp⟩⟩;have ek:k=n:=(by omega);subst ek;rw[HP.out x,HM.out x];simp[Ht]
end Go.Proofs.YteoihknaljgocaaGreatDoor
