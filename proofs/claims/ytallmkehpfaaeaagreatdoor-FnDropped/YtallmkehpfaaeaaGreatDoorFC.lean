import Derived.Test.YtallmkehpfaaeaaGreatDoorZ33
import Derived.OrdersIn
import Derived.OrdersHeld
namespace Go.Proofs.YtallmkehpfaaeaaGreatDoor
open Go Go.RowKit Go.Deep Go.Maps
section
variable {F:Fence}{n:Nat}{P:Program}{ops:Array Oper}{Q:Exit→Act→World→Prop}{md:Region.Mode}{S:World→Prop}{X:List Nat}
def YieldsF(P:Program)(ops:Array Oper)(S:World→Prop)(o:Oper)(v:Value)(a:Act):Prop:=YieldsIf P ops S o v a∧∀w,o.about P w a.eval=none
theorem YieldsF.wpOpIn{i:Nat}{o:Oper}{v:Value}{a:Act}(hro:F.round=none)(hi:ops[i]? =some o)(hy:YieldsF P ops S o v a)
 {K:Act→World→Prop}{w:World}(hS:S w)(h:K (a.put o.dst v) w):wpOpIn F n P ops Q i K a w:=by
 unfold Go.wpOpIn;simp only[hi];have hab:∀f,o.about P w a.eval=some f→F.fn f:=fun f hf=>by rw[hy.2 w]at hf;cases hf
 rcases hy.1 with⟨hw,hv⟩|⟨hw,rfl⟩
 ·simp only[hw,if_true,Oper.wpIn,hro,Oper.semAt_none,hv w hS,Oper.uponIn];exact⟨hab,h⟩
 ·simp only[hw,Bool.false_eq_true,if_false];exact⟨hab,h⟩
theorem YieldsF.of_same{o:Oper}{v:Value}{a a':Act}(hy:YieldsF P ops S o v a)(he:execOp a'.eval o=execOp a.eval o)
 (hw:Region.wanted o (yielded ops a'.tmps)=Region.wanted o (yielded ops a.tmps))(hb:∀w,o.about P w a'.eval=o.about P w a.eval):YieldsF P ops S o v a':=
 ⟨hy.1.of_same he hw,fun w=>by rw[hb w];exact hy.2 w⟩
theorem wpOpIn_putF{j:Nat}{oi oj:Oper}{v:Value}(hro:F.round=none)(hj:ops[j]? =some oj)(hap:oi.apart ops oj=true)
 (hsi:∀cs b,oi.op≠ .select cs b)(hsj:∀cs b,oj.op≠ .select cs b)
 (hQ:∀c a w,Q (.panic c) (a.put oi.dst v) w→Q (.panic c) a w){K:Act→World→Prop}{a:Act}{w:World}
 (hy:YieldsF P ops S oi v a)(h:wpOpIn F n P ops Q j K (a.put oi.dst v) w):
 wpOpIn F n P ops Q j (fun a' w'=>YieldsF P ops S oi v a'∧K (a'.put oi.dst v) w') a w:=by
 obtain⟨h1,h2,h3⟩:=Oper.apart_spec hap;have keep:∀(a:Act),YieldsF P ops S oi v a→∀u,YieldsF P ops S oi v (a.put oj.dst u):=fun a hy u=>
  hy.of_same (execOp_put oi hsi a oj.dst u h3) (wanted_put oi a oj.dst u h3) (fun w=>about_put oi w a oj.dst u h3)
 have keepD:∀d,YieldsF P ops S oi v {a with defers:=d::a.defers}:=fun d=>hy.of_same rfl rfl (fun _=>rfl);unfold wpOpIn at *;simp only[hj]at *;rw[wanted_put oj a oi.dst v h1,about_put oj w a oi.dst v h1]at h;split
 ·rename_i hw;simp only[hw,if_true]at h;unfold Oper.wpIn at *;rw[about_put oj w a oi.dst v h1]at h;refine⟨h.1,?_⟩;have h:=h.2;rw[hro,Oper.semAt_none,execOp_put oj hsj a oi.dst v h1]at h;rw[hro,Oper.semAt_none];generalize (execOp a.eval oj).run P w=r at *;cases r with
  |ok x w'=>
   cases x<;>simp only[Oper.uponIn]at h ⊢;case value u=>exact⟨keep a hy u,by rw[←Act.put_comm a v u h2];exact h⟩
   case skip=>exact⟨keep a hy _,by rw[←Act.put_comm a v undef h2];exact h⟩
   case defer d=>
    refine⟨keep _ (keepD d) _,?_⟩;rw[←Act.put_comm _ v undef h2,←Act.put_defers];exact h
   case enter f args=>
    refine⟨h.1,CallsIn.mono h.2 fun e w'' he=>?_⟩;cases e with
    |returned u=>exact⟨keep a hy u,by rw[←Act.put_comm a v u h2];exact he⟩
    |panicked c=>exact hQ _ _ _ he
    |outgrown=>exact he
   case row row args=>exact⟨h.1,RowsIn.mono h.2 fun u w'' he=>⟨keep a hy u,by rw[←Act.put_comm a v u h2];exact he⟩⟩
   case round l f tmps assign body=>
    refine⟨h.1,RoundIn.mono h.2 fun e w'' he=>?_⟩;cases e with
    |returned u=>exact⟨keep a hy u,by rw[←Act.put_comm a v u h2];exact he⟩
    |panicked c=>exact hQ _ _ _ he
    |outgrown=>exact he
  |halt x w'=>
   cases x<;>simp only[Oper.uponIn]at h ⊢;case panic u=>exact hQ _ _ _ h
 ·rename_i hw;simp only[hw]at h;exact⟨h.1,keep a hy _,by rw[←Act.put_comm a v undef h2];exact h.2⟩
def AnyF(F:Fence)(n:Nat)(P:Program)(md:Region.Mode)(ops:Array Oper)(Q:Exit→Act→World→Prop)(S:World→Prop)(X:List Nat)(f:Nat)(L:Array Bool)(a:Act)(w:World):Prop:=
 match f with
 |0=>Region.ready md ops L=[]∧Q .normal a w
 |f+1=>(Region.ready md ops L=[]→Q .normal a w)∧
  ∀i∈Region.ready md ops L,wpOpIn F n P ops Q i (fun a' w'=>(X.contains i=false→S w')∧AnyF F n P md ops Q S X f (L.setIfInBounds i true) a' w') a w
theorem AnyF.any{f:Nat}:∀{L:Array Bool}{a:Act}{w:World},AnyF F n P md ops Q S X f L a w→wpAnyIn F n P md ops Q f L a w:=by
 induction f with
 |zero=>intro L a w h;exact h
 |succ f ih=>intro L a w h;exact⟨h.1,fun i hi=>wpOpIn_mono (fun _ _ k=>ih k.2) (h.2 i hi)⟩
def ClosedL(md:Region.Mode)(ops:Array Oper)(L:Array Bool):Prop:=
 ∀k o,ops[k]? =some o→L.getD k false=true→∀e∈o.after,Region.binds md e=true→L.getD e.on false=true
def leads(md:Region.Mode)(ops:Array Oper):Nat→Nat→Nat→Bool
 |0,_,_=>false
 |f+1,x,i=>match ops[x]? with
  |some o=>o.after.any (fun e=>Region.binds md e&&(e.on==i||leads md ops f e.on i))
  |none=>false
theorem leads_listed{L:Array Bool}(hc:ClosedL md ops L){i:Nat}(f:Nat):∀x,leads md ops f x i=true→(∀o,ops[x]? =some o→∀e∈o.after,Region.binds md e=true→L.getD e.on false=true)→L.getD i false=true:=by
 induction f with
 |zero=>intro x h _;simp[leads]at h
 |succ f ih=>
  intro x h hx;unfold leads at h;cases ho:ops[x]? with
  |none=>rw[ho]at h;simp at h
  |some o=>
   rw[ho]at h;dsimp only at h;obtain⟨e,he,hb⟩:=Array.any_eq_true'.1 h;simp only[Bool.and_eq_true,Bool.or_eq_true,beq_iff_eq]at hb;have hl:=hx o ho e he hb.1;rcases hb.2 with q|q
   ·rw[←q];exact hl
   ·exact ih e.on q (fun o' ho' e' he' hb'=>hc e.on o' ho' hl e' he' hb')
theorem ClosedL.set{L:Array Bool}(hc:ClosedL md ops L){j:Nat}(hj:j∈Region.ready md ops L):ClosedL md ops (L.setIfInBounds j true):=by
 intro k o ho hk e he hb;obtain⟨hun,oj,hoj,hall⟩:=mem_ready.1 hj;by_cases q:j=k
 ·subst q;rw[hoj]at ho;cases ho;exact getD_set_true (hall e he hb)
 ·rw[getD_set_ne false q]at hk;exact getD_set_true (hc k o ho hk e he hb)
theorem ready_unlistedF{i:Nat}{L:Array Bool}(h:i∈Region.ready md ops L):L.getD i false=false:=by
 have h0:=(mem_ready.1 h).1;by_cases hl:i<L.size
 ·simp[hl]at h0 ⊢;exact h0
 ·simp[Array.getElem?_eq_none (Nat.le_of_not_lt hl)]
theorem AnyF.takes{i:Nat}{oi:Oper}{v:Value}(hro:F.round=none)(hi:ops[i]? =some oi)(hs:Region.noSelect ops=true)
 (hX:∀x,X.contains x=true→leads md ops ops.size x i=true)
 (hQ:∀c a w,Q (.panic c) (a.put oi.dst v) w→Q (.panic c) a w)(f:Nat):∀{L:Array Bool}{a:Act}{w:World},ClosedL md ops L→
 (∀j oj,ops[j]? =some oj→j≠i→L.getD j true=false→(∀e∈oj.after,Region.binds md e=true→e.on≠i)→oi.apart ops oj=true)→
 i∈Region.ready md ops L→YieldsF P ops S oi v a→S w→AnyF F n P md ops Q S X f (L.setIfInBounds i true) (a.put oi.dst v) w→AnyF F n P md ops Q S X (f+1) L a w:=by
 have sel:=Region.noSelect_spec hs;induction f with
 |zero=>
  intro L a w _ _ hr hy hS H;refine⟨fun e=>absurd hr (by rw[e];simp),fun j hj=>?_⟩;by_cases e:j=i
  ·subst e;exact hy.wpOpIn hro hi hS ⟨fun _=>hS,H⟩
  ·have:=ready_mono hj e;rw[H.1]at this;simp at this
 |succ f ih=>
  intro L a w hcl hfree hr hy hS H;refine⟨fun e=>absurd hr (by rw[e];simp),fun j hj=>?_⟩;by_cases e:j=i
  ·subst e;exact hy.wpOpIn hro hi hS ⟨fun _=>hS,H⟩
  ·obtain⟨hun,oj,hoj,hall⟩:=mem_ready.1 hj;have un:=ready_unlistedF hr;have apart:∀x∈oj.after,Region.binds md x=true→x.on≠i:=fun x hx hb hq=>by
    have:=hall x hx hb;rw[hq,un]at this;cases this
   have hjX:X.contains j=false:=by
    cases hc:X.contains j
    ·rfl
    ·have:=leads_listed hcl ops.size j (hX j hc) (fun o ho e he hb=>by rw[hoj]at ho;cases ho;exact hall e he hb);rw[un]at this;cases this
   refine wpOpIn_mono (fun a' w' k=>⟨fun _=>k.2.1 hjX,?_⟩) (wpOpIn_putF hro hoj (hfree j oj hoj e hun apart) (fun cs b=>sel i oi cs b hi) (fun cs b=>sel j oj cs b hoj) hQ hy (H.2 j (ready_mono hj e)));refine ih (hcl.set hj) (fun k ok hk hki hkl hkn=>hfree k ok hk hki ?_ hkn) (ready_mono hr (Ne.symm e)) k.1 (k.2.1 hjX) ?_
   ·by_cases q:j=k
    ·subst q;exact hun
    ·rw[getD_set_ne true q]at hkl;exact hkl
   ·rw[Array.setIfInBounds_comm _ _ e];exact k.2.2
def closedB(md:Region.Mode)(ops:Array Oper)(L:Array Bool):Bool:=
 (List.range ops.size).all fun k=> !(L.getD k false)||match ops[k]? with
   |some o=>o.after.all (fun e=> !(Region.binds md e)||L.getD e.on false)
   |none=>true
theorem closedB_out{L:Array Bool}(h:closedB md ops L=true):ClosedL md ops L:=by
 intro k o ho hk e he hb;unfold closedB at h;rw[List.all_eq_true]at h;have:=h k (List.mem_range.2 (Array.getElem?_eq_some_iff.1 ho).1);rw[hk,ho]at this;simp only[Bool.not_true,Bool.false_or]at this;have:=(Array.all_eq_true'.1 this) e he;rw[hb]at this;simpa using this
theorem AnyF.takeD{i d:Nat}{oi:Oper}(v:Value){f:Nat}{L:Array Bool}{a:Act}{w:World}(hro:F.round=none)(hi:ops[i]? =some oi)(hd:oi.dst=some d)(hs:Region.noSelect ops=true)(hf:Region.free md ops L i=true)
 (hr:(Region.ready md ops L).contains i=true)(hcl:closedB md ops L=true)(hX:X.all (fun x=>leads md ops ops.size x i)=true)(hQ:∀c a w,Q (.panic c) (a.put (some d) v) w→Q (.panic c) a w)(hS:S w)
 (hy:YieldsIf P ops S oi v a)(hab:∀w,oi.about P w a.eval=none)(h:AnyF F n P md ops Q S X f (L.setIfInBounds i true) (a.put (some d) v) w):AnyF F n P md ops Q S X (f+1) L a w:=
 AnyF.takes (v:=v) hro hi hs (fun x hx=>List.all_eq_true.1 hX x (by simpa using hx)) (by rw[hd];exact hQ) f (closedB_out hcl) (Region.free_spec hi hf) (by simpa using hr) ⟨hy,hab⟩ hS (by rw[hd];exact h)
theorem AnyF.skip{i d:Nat}{oi:Oper}{f:Nat}{L:Array Bool}{a:Act}{w:World}(hro:F.round=none)(hi:ops[i]? =some oi)(hd:oi.dst=some d)(hs:Region.noSelect ops=true)(hf:Region.free md ops L i=true)
 (hr:(Region.ready md ops L).contains i=true)(hcl:closedB md ops L=true)(hX:X.all (fun x=>leads md ops ops.size x i)=true)(hQ:∀c a w,Q (.panic c) (a.put (some d) undef) w→Q (.panic c) a w)(hS:S w)
 (hun:Region.wanted oi (yielded ops a.tmps)=false)(hab:∀w,oi.about P w a.eval=none)(h:AnyF F n P md ops Q S X f (L.setIfInBounds i true) (a.put (some d) undef) w):AnyF F n P md ops Q S X (f+1) L a w:=
 AnyF.takeD undef hro hi hd hs hf hr hcl hX hQ hS (Or.inr ⟨hun,rfl⟩) hab h
theorem AnyF.one{i:Nat}{o:Oper}{f:Nat}{L:Array Bool}{a:Act}{w:World}(hi:ops[i]? =some o)(hr:Region.ready md ops L=[i])
 (h:∀K':Act→World→Prop,Hid (∀a w,(X.contains i=false→S w)→AnyF F n P md ops Q S X f (L.setIfInBounds i true) a w→K' a w)→if Region.wanted o (yielded ops a.tmps)=true then Oper.wpIn F n P o a w K' Q else(∀f,o.about P w a.eval=some f→F.fn f)∧K' (a.put o.dst undef) w):AnyF F n P md ops Q S X (f+1) L a w:=
 ⟨fun e=>absurd (hr.symm.trans e) (by simp),fun j hj=>by
   rw[hr]at hj;obtain rfl:j=i:=by simpa using hj
   exact wpOpIn_step hi (fun K' hK=>h K' (fun a w h1 h2=>hK a w ⟨h1,h2⟩))⟩
theorem AnyF.done{f:Nat}{L:Array Bool}{a:Act}{w:World}(hr:Region.ready md ops L=[])(h:Q .normal a w):AnyF F n P md ops Q S X f L a w:=by
 cases f with
 |zero=>exact⟨hr,h⟩
 |succ f=>exact⟨fun _=>h,fun i hi=>by rw[hr]at hi;simp at hi⟩
theorem AnyF.region{id:Nat}{a:Act}{w:World}(S:World→Prop)(X:List Nat)(hm:P.follows .mixedOrders=true)(h:AnyF F n P .any ops Q S X ops.size (Array.replicate ops.size false) a w.drew):(Code.region id ops true).wpIn F n P Q a w:=
 wpIn_region_any hm h.any
end
end Go.Proofs.YtallmkehpfaaeaaGreatDoor
