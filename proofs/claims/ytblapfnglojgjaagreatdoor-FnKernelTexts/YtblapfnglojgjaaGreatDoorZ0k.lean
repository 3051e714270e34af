import Derived.Deep.RegionHeld3
import Derived.Test.YtblapfnglojgjaaGreatDoorProg
import Derived.ProofKit
import Derived.Shelf.Abstract
import Derived.WalkKit
import Derived.WalkSpells
import Derived.WalkLawsBesides
import Derived.Below
import Derived.Deep.OwnRows
import Derived.Deep.QuietTactic
import Derived.BigQuiet
set_option maxHeartbeats 1000000
namespace Go.Proofs.YtblapfnglojgjaaGreatDoor
open Go
section
variable {P:Program}{ops:Array Oper}{Q:Exit->Act->World->Prop}{md:Region.Mode}{S:World->Prop}{m:Nat}
def Bu(P:Program)(md:Region.Mode)(ops:Array Oper)(Q:Exit->Act->World->Prop)(S:World->Prop)(m:Nat):Nat->Array Bool->Act->World->Prop
 |0,listed,a,w=>Region.ready md ops listed=[]/\Q .normal a w
 |fuel+1,listed,a,w=>
  (Region.ready md ops listed=[]->Q .normal a w)/\
  ∀i∈Region.ready md ops listed,wpOp P ops Q i (fun a' w'=>((listed.setIfInBounds i true).getD m false=false->S w')/\Bu P md ops Q S m fuel (listed.setIfInBounds i true) a' w') a w
theorem Pf:∀(fuel:Nat) (listed:Array Bool) (a:Act) (w:World),Bu P md ops Q S m fuel listed a w->wpAny P md ops Q fuel listed a w
 |0,_,_,_,h=>h
 |fuel+1,_,_,_,h=>⟨h.1,fun i hi=>wpOp_mono (fun a' w' h'=>Pf fuel _ a' w' h'.2) (h.2 i hi)⟩
def waits(md:Region.Mode)(ops:Array Oper)(m i:Nat):Bool:=match ops[m]? with
 |some o=>o.after.any fun e=>Region.binds md e&&(e.on==i)
 |none=>false
theorem Si{i:Nat}{oi:Oper}{v:Value}(hi:ops[i]? =some oi)(hsel:∀(j:Nat) (o:Oper) cs b,ops[j]? =some o->o.op≠ .select cs b)
 (hQ:∀c a w,Q (.panic c) (a.put oi.dst v) w->Q (.panic c) a w)(hwait:(waits md ops m i||decide (ops.size<=m))=true)(him:i≠m):
 ∀(fuel:Nat) (listed:Array Bool) (a:Act) (w:World),
  (∀j oj,ops[j]? =some oj->j≠i->listed.getD j true=false->(∀e∈oj.after,Region.binds md e=true->e.on≠i)->oi.apart ops oj=true)->
  i∈Region.ready md ops listed->YieldsIf P ops S oi v a->S w->listed.getD m false=false->
  Bu P md ops Q S m fuel (listed.setIfInBounds i true) (a.put oi.dst v) w->Bu P md ops Q S m (fuel+1) listed a w:=by
 intro fuel;induction fuel with
 |zero=>
  intro listed a w _ hr hy hS _ H;refine⟨fun h=>(by rw[h]at hr;cases hr),fun j hj=>?_⟩;by_cases hji:j=i
  ·subst hji;exact hy.wpOp hi hS ⟨fun _=>hS,H⟩
  ·have:=ready_mono hj hji;rw[H.1]at this;cases this
 |succ fuel ih=>
  intro listed a w hfree hr hy hS hm H;refine⟨fun h=>(by rw[h]at hr;cases hr),fun j hj=>?_⟩;by_cases hji:j=i
  ·subst hji;exact hy.wpOp hi hS ⟨fun _=>hS,H⟩
  ·have h1:=H.2 j (ready_mono hj hji);obtain⟨hjun,oj,hoj,hall⟩:=mem_ready.1 hj;have hnot:∀e∈oj.after,Region.binds md e=true->e.on≠i:=fun e he hb heq=>by
    have h1:=hall e he hb;have h0:=(mem_ready.1 hr).1;rw[heq]at h1;rcases Nat.lt_or_ge i listed.size with h'|h'
    ·simp[h']at h0 h1;rw[h0]at h1;cases h1
    ·simp[Array.getElem?_eq_none h']at h1
   have hjm:j≠m:=fun e=>by
    subst e;simp only[Bool.or_eq_true,decide_eq_true_eq]at hwait;rcases hwait with hwait|hwait;rotate_left
    ·have:=(Array.getElem?_eq_some_iff.1 hoj).1;omega
    unfold waits at hwait;rw[hoj]at hwait;simp only[Array.any_eq_true]at hwait;obtain⟨x,hx,hb⟩:=hwait;simp only[Bool.and_eq_true,beq_iff_eq]at hb;exact hnot _ (Array.getElem_mem hx) hb.1 hb.2
   have h2:=wpOp_putIf hoj (hfree j oj hoj hji hjun hnot) (fun cs b=>hsel i oi cs b hi) (fun cs b=>hsel j oj cs b hoj) hQ hy h1;have hfree':∀k ok,ops[k]? =some ok->k≠i->(listed.setIfInBounds j true).getD k true=false->
    (∀e∈ok.after,Region.binds md e=true->e.on≠i)->oi.apart ops ok=true:=fun k ok hk hki hun hno=>by
    refine hfree k ok hk hki ?_ hno;by_cases hjk:j=k
    ·subst hjk;exact hjun
    ·rw[getD_set_ne true hjk]at hun;exact hun
   have hm2:(listed.setIfInBounds j true).getD m false=false:=(by rw[getD_set_ne false hjm];exact hm);have hm3:((listed.setIfInBounds i true).setIfInBounds j true).getD m false=false:=(by rw[getD_set_ne false hjm,getD_set_ne false him];exact hm);refine wpOp_mono (fun a' w' h3=>⟨fun _=>h3.2.1 hm3,ih (listed.setIfInBounds j true) a' w' hfree' (ready_mono hr (Ne.symm hji)) h3.1 (h3.2.1 hm3) hm2 ?_⟩) h2;rw[Array.setIfInBounds_comm _ _ hji];exact h3.2.2
theorem Tq{i:Nat}{oi:Oper}{v:Value}{fuel:Nat}{listed:Array Bool}{a:Act}{w:World}(hi:ops[i]? =some oi)
 (hs:Region.noSelect ops=true)(hf:Region.free md ops listed i=true)(hr:(Region.ready md ops listed).contains i=true)
 (hwait:(waits md ops m i||decide (ops.size<=m))=true)(him:(i==m)=false)(hm:listed.getD m false=false)
 (hQ:∀c a w,Q (.panic c) (a.put oi.dst v) w->Q (.panic c) a w)(hy:YieldsIf P ops S oi v a)(hS:S w)
 (h:Bu P md ops Q S m fuel (listed.setIfInBounds i true) (a.put oi.dst v) w):Bu P md ops Q S m (fuel+1) listed a w:=
 Si hi (Region.noSelect_spec hs) hQ hwait (by simpa using him) fuel listed a w (Region.free_spec hi hf) (by simpa using hr) hy hS hm h
theorem Lt{i d:Nat}{oi:Oper}(v:Value){fuel:Nat}{listed:Array Bool}{a:Act}{w:World}(hi:ops[i]? =some oi)(hd:oi.dst=some d)
 (hs:Region.noSelect ops=true)(hf:Region.free md ops listed i=true)(hr:(Region.ready md ops listed).contains i=true)
 (hwait:(waits md ops m i||decide (ops.size<=m))=true)(him:(i==m)=false)(hm:listed.getD m false=false)
 (hQ:∀c a w,Q (.panic c) (a.put (some d) v) w->Q (.panic c) a w)(hy:YieldsIf P ops S oi v a)(hS:S w)
 (h:Bu P md ops Q S m fuel (listed.setIfInBounds i true) (a.put (some d) v) w):Bu P md ops Q S m (fuel+1) listed a w:=
 Tq hi hs hf hr hwait him hm (by rw[hd];exact hQ) hy hS (by rw[hd];exact h)
theorem Ti{i d:Nat}{oi:Oper}{fuel:Nat}{listed:Array Bool}{a:Act}{w:World}(hi:ops[i]? =some oi)(hd:oi.dst=some d)
 (hs:Region.noSelect ops=true)(hf:Region.free md ops listed i=true)(hr:(Region.ready md ops listed).contains i=true)
 (hwait:(waits md ops m i||decide (ops.size<=m))=true)(him:(i==m)=false)(hm:listed.getD m false=false)
 (hQ:∀c a w,Q (.panic c) (a.put (some d) undef) w->Q (.panic c) a w)(hun:Region.wanted oi (yielded ops a.tmps)=false)(hS:S w)
 (h:Bu P md ops Q S m fuel (listed.setIfInBounds i true) (a.put (some d) undef) w):Bu P md ops Q S m (fuel+1) listed a w:=
 Lt undef hi hd hs hf hr hwait him hm hQ (Or.inr ⟨hun,rfl⟩) hS h
theorem Ab{i:Nat}{o:Oper}{fuel:Nat}{listed:Array Bool}{a:Act}{w:World}(hr:Region.ready md ops listed=[i])(ho:ops[i]? =some o)
 (h:∀K':Act->World->Prop,Shut (∀a w,((listed.setIfInBounds i true).getD m false=false->S w)->Bu P md ops Q S m fuel (listed.setIfInBounds i true) a w->K' a w)->if Region.wanted o (yielded ops a.tmps)=true then Oper.wp P o a w K' Q else K' (a.put o.dst undef) w):
 Bu P md ops Q S m (fuel+1) listed a w:=
 ⟨fun h0=>(by rw[hr]at h0;cases h0),fun j hj=>by
   rw[hr]at hj;obtain rfl:=List.mem_singleton.1 hj;exact wpOp_step ho (fun K' hK=>h K' (fun a w hS hW=>hK a w ⟨hS,hW⟩))⟩
theorem Ao{listed:Array Bool}{a:Act}{w:World}(hr:Region.ready md ops listed=[])(h:Q .normal a w):
 ∀fuel,Bu P md ops Q S m fuel listed a w
 |0=>⟨hr,h⟩
 |_+1=>⟨fun _=>h,by rw[hr];simp⟩
theorem Av{id:Nat}{a:Act}{w:World}(m:Nat)(S:World->Prop)(hm:P.follows .mixedOrders=true)
 (h:Bu P .any ops Q S m ops.size (Array.replicate ops.size false) a w.drew):(Code.region id ops true).wp P Q a w:=
 wp_region_any hm (Pf _ _ _ _ h)
end
open Go.Proofs.Tryz
theorem Ap{ops:Array Oper}{o:Oper}{a:Act}{w:World}{K:Act->World->Prop}{Q:Exit->Act->World->Prop}{E:Prop}(hw:Region.wanted o (yielded ops a.tmps)=true)(f:Nat)(x:Operand)(ats:Array TypeId)
 (ho:o.op= .call {callee:= .value (.func f),args:=#[x],argTypes:=ats})(eg:∀args w,(callFunc f args).run prog w= .ok (.enter f args) w)(v0:Value)(hv:a.eval x=v0)
 (d:Option Nat)(hd:o.dst=d)(R:Value->World->Prop)(hc:Calls prog f #[v0] w fun e w'=>∃v,e= .returned v/\R v w')(h:∀v w',R v w'->K (a.put d v) w'):
 if Region.wanted o (yielded ops a.tmps)=true then Oper.wp prog o a w K Q else E:=by
 rw[if_pos hw];have e:(execOp a.eval o).run prog w= .ok (.enter f #[v0]) w:=by
  unfold execOp;simp only[ho,resolve,invoke,Sem.run_bind,List.map_toArray,List.map_cons,List.map_nil,hv];simp[go_sem,eg,Act.eval]
 unfold Oper.wp;rw[e,Oper.upon_enter];exact hc.mono fun e w' ⟨v,he,hr⟩=>by subst he;rw[hd];exact h v w' hr
theorem Bc{ops:Array Oper}{o:Oper}{a:Act}{w:World}{K:Act->World->Prop}{Q:Exit->Act->World->Prop}{E:Prop}(hw:Region.wanted o (yielded ops a.tmps)=true)(f:Nat)(x y:Operand)(ats:Array TypeId)
 (ho:o.op= .call {callee:= .value (.func f),args:=#[x,y],argTypes:=ats})(eg:∀args w,(callFunc f args).run prog w= .ok (.enter f args) w)(v0 v1:Value)(hv:a.eval x=v0)(hv1:a.eval y=v1)
 (d:Option Nat)(hd:o.dst=d)(R:Value->World->Prop)(hc:Calls prog f #[v0,v1] w fun e w'=>∃v,e= .returned v/\R v w')(h:∀v w',R v w'->K (a.put d v) w'):
 if Region.wanted o (yielded ops a.tmps)=true then Oper.wp prog o a w K Q else E:=by
 rw[if_pos hw];have e:(execOp a.eval o).run prog w= .ok (.enter f #[v0,v1]) w:=by
  unfold execOp;simp only[ho,resolve,invoke,Sem.run_bind,List.map_toArray,List.map_cons,List.map_nil,hv,hv1];simp[go_sem,eg,Act.eval]
 unfold Oper.wp;rw[e,Oper.upon_enter];exact hc.mono fun e w' ⟨v,he,hr⟩=>by subst he;rw[hd];exact h v w' hr
theorem Fz{ops:Array Oper}{o:Oper}{a:Act}{w:World}{K:Act->World->Prop}{Q:Exit->Act->World->Prop}{E:Prop}(hw:Region.wanted o (yielded ops a.tmps)=true)(f:Nat)(x y z:Operand)(ats:Array TypeId)
 (ho:o.op= .call {callee:= .value (.func f),args:=#[x,y,z],argTypes:=ats})(eg:∀args w,(callFunc f args).run prog w= .ok (.enter f args) w)(v0 v1 v2:Value)(hv:a.eval x=v0)(hv1:a.eval y=v1)(hv2:a.eval z=v2)
 (d:Option Nat)(hd:o.dst=d)(R:Value->World->Prop)(hc:Calls prog f #[v0,v1,v2] w fun e w'=>∃v,e= .returned v/\R v w')(h:∀v w',R v w'->K (a.put d v) w'):
 if Region.wanted o (yielded ops a.tmps)=true then Oper.wp prog o a w K Q else E:=by
 rw[if_pos hw];have e:(execOp a.eval o).run prog w= .ok (.enter f #[v0,v1,v2]) w:=by
  unfold execOp;simp only[ho,resolve,invoke,Sem.run_bind,List.map_toArray,List.map_cons,List.map_nil,hv,hv1,hv2];simp[go_sem,eg,Act.eval]
 unfold Oper.wp;rw[e,Oper.upon_enter];exact hc.mono fun e w' ⟨v,he,hr⟩=>by subst he;rw[hd];exact h v w' hr
open Go.RowKit
theorem ap(l:List Value)(ds:List Deferred)(d:Nat)(v:Value):Act.put ⟨l.toArray,ds⟩ (some d) v=⟨(l.set d v).toArray,ds⟩:=by
 simp only[Act.put,List.setIfInBounds_toArray]
def Wb(md:Region.Mode)(ops:Array Oper)(m:Nat)(listed:Array Bool)(i:Nat):Bool:=
 Region.noSelect ops&&Region.free md ops listed i&&(Region.ready md ops listed).contains i&&(waits md ops m i||decide (ops.size<=m))&& !(i==m)&& !listed.getD m false
section
variable {P:Program}{md:Region.Mode}{ops:Array Oper}{Q:Exit->Act->World->Prop}{S:World->Prop}{m:Nat}
theorem tk(i d:Nat){oi:Oper}(v:Value){fuel:Nat}{listed:Array Bool}{a:Act}{w:World}(hi:ops[i]? =some oi)(hd:oi.dst=some d)(hk:Wb md ops m listed i=true)
 (hw:Region.wanted oi (yielded ops a.tmps)=true)(hy:∀W,S W->(execOp a.eval oi).run P W= .ok (.value v) W)(hS:S w)
 (h:Bu P md ops Q S m fuel (listed.setIfInBounds i true) (a.put (some d) v) w)(hQ:∀c a w,Q (.panic c) (a.put (some d) v) w->Q (.panic c) a w:=by exact fun _ _ _=>id):Bu P md ops Q S m (fuel+1) listed a w:=by
 unfold Wb at hk;simp only[Bool.and_eq_true,Bool.not_eq_true']at hk;obtain⟨⟨⟨⟨⟨h1,h2⟩,h3⟩,h4⟩,h5⟩,h6⟩:=hk;exact Lt v hi hd h1 h2 h3 h4 h5 h6 hQ (Or.inl ⟨hw,hy⟩) hS h
theorem sk(i d:Nat){oi:Oper}{fuel:Nat}{listed:Array Bool}{a:Act}{w:World}(hi:ops[i]? =some oi)(hd:oi.dst=some d)(hk:Wb md ops m listed i=true)
 (hun:Region.wanted oi (yielded ops a.tmps)=false)(hS:S w)
 (h:Bu P md ops Q S m fuel (listed.setIfInBounds i true) (a.put (some d) undef) w)(hQ:∀c a w,Q (.panic c) (a.put (some d) undef) w->Q (.panic c) a w:=by exact fun _ _ _=>id):Bu P md ops Q S m (fuel+1) listed a w:=by
 unfold Wb at hk;simp only[Bool.and_eq_true,Bool.not_eq_true']at hk;obtain⟨⟨⟨⟨⟨h1,h2⟩,h3⟩,h4⟩,h5⟩,h6⟩:=hk;exact Ti hi hd h1 h2 h3 h4 h5 h6 hQ hun hS h
theorem tq(i d:Nat){oi:Oper}(v:Value){fuel:Nat}{listed:Array Bool}{a:Act}{w:World}(hS:S w)
 (h:Bu P md ops Q S m fuel (listed.setIfInBounds i true) (a.put (some d) v) w)
 (hi:ops[i]? =some oi:=by rfl)(hd:oi.dst=some d:=by rfl)(hk:Wb md ops m listed i=true:=by kernel_rfl)
 (hw:Region.wanted oi (yielded ops a.tmps)=true:=by rfl)(hy:∀W,S W->(execOp a.eval oi).run P W= .ok (.value v) W:=by intro W h;go_simp)
 (hQ:∀c a w,Q (.panic c) (a.put (some d) v) w->Q (.panic c) a w:=by exact fun _ _ _=>id):Bu P md ops Q S m (fuel+1) listed a w:=
 tk i d v hi hd hk hw hy hS h hQ
theorem tr(i d:Nat){oi:Oper}(v:Value){fuel:Nat}{listed:Array Bool}{a a':Act}{w:World}(hS:S w)
 (h:Bu P md ops Q S m fuel (listed.setIfInBounds i true) a' w)
 (hi:ops[i]? =some oi:=by rfl)(hd:oi.dst=some d:=by rfl)(hk:Wb md ops m listed i=true:=by kernel_rfl)
 (hw:Region.wanted oi (yielded ops a.tmps)=true:=by rfl)(hy:∀W,S W->(execOp a.eval oi).run P W= .ok (.value v) W:=by intro W h;go_simp)
 (ha:a.put (some d) v=a':=by simp only[ap,List.set];exact rfl)
 (hQ:∀c a w,Q (.panic c) (a.put (some d) v) w->Q (.panic c) a w:=by exact fun _ _ _=>id):Bu P md ops Q S m (fuel+1) listed a w:=
 tk i d v hi hd hk hw hy hS (by rw[ha];exact h) hQ
def Ys(md:Region.Mode)(ops:Array Oper)(m:Nat):List (Nat×Nat)->Array Bool->Array Value->Bool
 |[],_,_=>true
 |(i,d)::l,listed,t=>(match ops[i]? with
  |some oi=>Wb md ops m listed i&&decide (oi.dst=some d)&& !Region.wanted oi (yielded ops t)
  |none=>false)&&Ys md ops m l (listed.setIfInBounds i true) (t.setIfInBounds d undef)
def bw:List (Nat×Nat)->Array Bool->Array Bool
 |[],s=>s
 |(i,_)::l,s=>bw l (s.setIfInBounds i true)
def FA:List (Nat×Nat)->Act->Act
 |[],a=>a
 |(_,d)::l,a=>FA l (a.put (some d) undef)
theorem Td(n:Nat)(l:List (Nat×Nat)){fuel:Nat}{listed:Array Bool}{a:Act}{w:World}(hn:l.length=n)(hk:Ys md ops m l listed a.tmps=true)(hS:S w)
 (h:Bu P md ops Q S m fuel (bw l listed) (FA l a) w)(hQ:∀c t t' ds w,Q (.panic c) ⟨t',ds⟩ w->Q (.panic c) ⟨t,ds⟩ w:=by exact fun _ _ _ _ _=>id):Bu P md ops Q S m (fuel+n) listed a w:=by
 subst hn;induction l generalizing listed a with
 |nil=>exact h
 |cons x l ih=>
  obtain⟨i,d⟩:=x;simp only[Ys,Bool.and_eq_true]at hk;obtain⟨h1,h2⟩:=hk;cases e:ops[i]? with
  |none=>rw[e]at h1;cases h1
  |some oi=>
   rw[e]at h1;simp only[Bool.and_eq_true,decide_eq_true_eq,Bool.not_eq_true']at h1;refine sk i d e h1.1.2 h1.1.1 h1.2 hS (ih ?_ h) (fun c a w=>hQ c _ _ _ w);exact h2
end
variable {x lo hi:Int}
instance:Coe World Nat:=⟨fun w=>w.heap.size⟩
instance:Coe Int Value:=⟨.int .i64⟩
structure Nw(x:World):Type
instance:Coe Nat (Option Addr):=⟨fun b=>some ⟨b,0,none⟩⟩
theorem nr{n:Nat}:n<=n:=Nat.le_refl _
theorem CY(w:World)(o:Obj):Below w w (w.alloc o):=(Below.refl _ w).alloc (Nat.le_refl _) o
structure No(x:Obj):Type
structure Na(x:Array Value):Type
structure Nv(x:Value):Type
instance {x:World}:CoeOut (Nw x) World:=⟨fun _=>x⟩
instance {x:Obj}:CoeOut (No x) Obj:=⟨fun _=>x⟩
instance {x:Array Value}:CoeOut (Na x) (Array Value):=⟨fun _=>x⟩
instance {x:Value}:CoeOut (Nv x) Value:=⟨fun _=>x⟩
theorem Ag{a b:Bool}(h:a=b):Ending.returned (.bool a)= .returned (.bool b):=by rw[h]
theorem GI{k:IntKind}{a b:Int}(h:a=b):Ending.returned (.int k a)= .returned (.int k b):=by rw[h]
theorem Oc{W w1:World}(hb:Below W W w1):(∀b o,b<W.heap.size->w1.cell? ⟨b,o,none⟩=W.cell? ⟨b,o,none⟩)/\(∀b o,b<W.heap.size->w1.frozen? ⟨b,o,none⟩=W.frozen? ⟨b,o,none⟩):=
 ⟨fun b o h=>hb.cell (p:=⟨b,o,none⟩) h,fun b o h=>hb.frozen (p:=⟨b,o,none⟩) h⟩
def Ed(x lo hi:Int):Bool:=decide (lo<=x)&&decide (x<=hi)
theorem NA(h:lo<=x):Ed x lo hi=decide (x<=hi):=by simp[Ed,h]
theorem Sv(h:x<lo):Ed x lo hi=false:=by simp[Ed];omega
theorem BN(x lo hi:Int)(w:World):
 Calls prog 51 #[.int .i64 x,.int .i64 lo,.int .i64 hi] w fun e w'=>e= .returned (.bool (Ed x lo hi))/\w'=w:=by
 go_enter func51,ntmps51
 go_wp2
 ·go_ret;exact⟨Ag (NA ‹_›).symm,rfl⟩
 ·go_ret;exact⟨Ag (Sv ‹_›).symm,rfl⟩
theorem Ku(x:Int)(w:World):
 Calls prog 95 #[.int .i64 x] w fun e w'=>e= .returned (.bool (Ed x 1 9999))/\w'=w:=by
 go_enter func95,ntmps95
 go_wp2
 ·go_ret;exact⟨Ag (NA ‹_›).symm,rfl⟩
 ·go_ret;exact⟨Ag (Sv ‹_›).symm,rfl⟩
theorem GJ(x:Int)(w:World):
 Calls prog 94 #[.int .i64 x] w fun e w'=>e= .returned (.bool (Ed x 0 3))/\w'=w:=by
 go_enter func94,ntmps94
 go_wp2
 ·go_ret;exact⟨Ag (NA ‹_›).symm,rfl⟩
 ·go_ret;exact⟨Ag (Sv ‹_›).symm,rfl⟩
open Go.Deep
variable {w w':World}{n b:Nat}{f g:Nat->Int}
theorem Tryz.info96:(prog.info? 96).map (fun i=>(i.zero,i.size,i.bytes))=some (some (.agg #[.int .i64 0,.int .i64 0]),2,16):=by kernel_rfl
def Dp(f g:Nat->Int)(j:Nat):Value:=if j%2=0 then .int .i64 (f (j/2))else .int .i64 (g (j/2))
def Bi(w:World)(a:Option Addr)(n:Nat)(f g:Nat->Int):Prop:=
 0<n->∃b off,a=some ⟨b,off,none⟩/\b<w.heap.size/\∀i,i<n->w.cell? ⟨b,off+i*2,none⟩=some (.int .i64 (f i))/\w.cell? ⟨b,off+i*2+1,none⟩=some (.int .i64 (g i))
theorem Bi.below{a:Option Addr}(h:Bi w a n f g)(hb:Below w w w'):Bi w' a n f g:=fun hn=>by
 obtain⟨b,off,rfl,hlt,hc⟩:=h hn;obtain⟨h1,_⟩:=Oc hb;exact⟨b,off,rfl,Nat.lt_of_lt_of_le hlt hb.size,fun i hi=>by rw[h1 _ _ hlt,h1 _ _ hlt];exact hc i hi⟩
theorem Bi.row(h:w.rowIs b 96 (n*2) (Dp f g)):Bi w (some ⟨b,0,none⟩) n f g:=fun _=>by
 refine⟨b,0,rfl,h.lt,fun i hi=>⟨?_,?_⟩⟩
 ·have:=h.cell (i:=0+i*2) (by omega);rw[this];have e1:(0+i*2)%2=0:=by omega
  have e2:(0+i*2)/2=i:=by omega
  simp only[Dp,e1,e2,if_true]
 ·have:=h.cell (i:=0+i*2+1) (by omega);rw[this];have e1:¬(0+i*2+1)%2=0:=by omega
  have e2:(0+i*2+1)/2=i:=by omega
  simp only[Dp,e2,if_neg e1]
theorem World.rowIs.below{B:Nat}{t:TypeId}{f:Nat->Value}(h:w.rowIs b t n f)(hb:Below B w w')(hB:b<B):w'.rowIs b t n f:=
 h.of_block (hb.block b hB)

variable {base:Int}{n k:Nat}{f g:Nat->Int}
def Db(base:Int)(f g:Nat->Int)(i:Nat):Bool:=Ed (f i) 1 9999&&Ed (g i) 0 3&& !(g i==base)&&(i==0||decide (f (i-1)<f i))
def AO(base:Int)(n:Nat)(f g:Nat->Int):Bool:=Ed base 0 3&&decide (n<=12)&&(List.range n).all (Db base f g)
theorem PY(h:Ed base 0 3=false):AO base n f g=false:=by simp[AO,h]
theorem QY(h:12<n):AO base n f g=false:=by
 have:decide (n<=12)=false:=by simp;omega
 simp[AO,this]
theorem GN(hk:k<n)(h:Db base f g k=false):AO base n f g=false:=by
 have:(List.range n).all (Db base f g)=false:=by
  rw[List.all_eq_false];exact⟨k,List.mem_range.2 hk,by simp[h]⟩
 simp[AO,this]
theorem Tu(hb:Ed base 0 3=true)(hn:n<=12)(h:∀i,i<n->Db base f g i=true):AO base n f g=true:=by
 have:(List.range n).all (Db base f g)=true:=by
  rw[List.all_eq_true];intro i hi;exact h i (List.mem_range.1 hi)
 simp[AO,this,hb,hn]
theorem Gy(h:AO base n f g=true):Ed base 0 3=true/\n<=12/\∀i,i<n->Db base f g i=true:=by
 simp only[AO,Bool.and_eq_true,decide_eq_true_eq,List.all_eq_true,List.mem_range]at h;exact⟨h.1.1,h.1.2,h.2⟩
theorem Cv{x lo hi:Int}:Ed x lo hi=true↔lo<=x/\x<=hi:=by simp[Ed]
theorem Jh{i:Nat}:Db base f g i=true↔(1<=f i/\f i<=9999)/\(0<=g i/\g i<=3)/\g i≠base/\(i=0∨f (i-1)<f i):=by
 simp[Db,Ed,and_assoc]
def lastOf(f:Nat->Int)(k:Nat):Int:=if k=0 then 0 else f (k-1)
theorem Iw(f:Nat->Int)(k:Nat):lastOf f (k+1)=f k:=by simp[lastOf]
theorem UR(h:Ed (f k) 1 9999=false):Db base f g k=false:=by simp[Db,h]
theorem YH(h0:Ed (f k) 1 9999=true)(h:f k<=lastOf f k):Db base f g k=false:=by
 have h0:=Cv.1 h0;by_cases e:k=0
 ·subst e;simp[lastOf]at h;omega
 ·simp[lastOf,e]at h;have:decide (f (k-1)<f k)=false:=by simp;omega
  simp[Db,e,this]
theorem TE(h:Ed (g k) 0 3=false):Db base f g k=false:=by simp[Db,h]
theorem TK(h:(g k==base)=true):Db base f g k=false:=by simp[Db,h]
theorem bo(h1:Ed (f k) 1 9999=true)(h2:¬f k<=lastOf f k)(h3:Ed (g k) 0 3=true)(h4:(g k==base)=false):Db base f g k=true:=by
 by_cases e:k=0
 ·subst e;simp_all[Db]
 ·simp[lastOf,e]at h2;simp[Db,h1,h3,h4,h2]
theorem HY(base:Int)(a:Option Addr)(n cap:Nat)(f g:Nat->Int)(w:World)(hn:n<=maxLen)(hc:Bi w a n f g):
 Calls prog 68 #[.agg #[.int .i64 base,.slice a n cap]] w fun e w'=>e= .returned (.bool (AO base n f g))/\Below w w w':=by
 unfold maxLen at hn;by_cases hb:Ed base 0 3=true
 ·by_cases h12:12<n
  ·have h12':(12:Int)<(n:Int):=(by omega);go_enter func68,ntmps68
   go_wp2_with(go_at_call 94;refine(GJ _ _).mono ?_;rintro e w' ⟨rfl,rfl⟩)
   go_ret;exact⟨Ag (QY h12).symm,CY _ _⟩
  ·have h12':¬(12:Int)<(n:Int):=(by omega);have n1:No (.cells #[.int .i64 base,.slice a n cap] 44):=⟨⟩;have hb0:=(Below.refl _ w).alloc nr n1;have hc1:=hc.below hb0;go_enter func68,ntmps68
   go_wp2_with(go_at_call 94;refine(GJ _ _).mono ?_;rintro e w' ⟨rfl,rfl⟩)
   go_loopw [3,19] (fun l i wr=>∃k:Nat,k<=n/\i= .int .i64 k/\l= .int .i64 (lastOf f k)/\(∀j,j<k->Db base f g j=true)/\Below (w.heap.size+1) (w.alloc n1) wr) (fun _ i _=>n-(intOf i).toNat)
   case atStart=>exact⟨0,Nat.zero_le _,rfl,rfl,fun j hj=>by omega,Below.refl _ _⟩
   case round=>
    obtain⟨k,hk,rfl,rfl,hall,hB⟩:=hrel;have x0:wr.cell? ⟨w,0,none⟩=some (.int .i64 base):=(hB.cell (p:=⟨w,0,none⟩) (by simp)).trans (by simp);have hB':Below w w wr:=hb0.trans (hB.mono (by omega));have zz:w.heap.size<wr.heap.size:=(by have:=hB.size;simp at this;omega);have x1:∀o,(wr.alloc o).cell? ⟨w,0,none⟩=some (.int .i64 base):=fun o=>(((Below.refl _ wr).alloc nr o).cell (p:=⟨w,0,none⟩) zz).trans x0;by_cases hlt':k<n
    ·obtain⟨b,off,rfl,hlt,hcc⟩:=hc (by omega);obtain⟨h1,h2⟩:=hcc k hlt';have g1:wr.cell? ⟨b,off+k*2,none⟩=some (.int .i64 (f k)):=(hB'.cell (p:=⟨b,_,none⟩) hlt).trans h1;have g2:wr.cell? ⟨b,off+k*2+1,none⟩=some (.int .i64 (g k)):=(hB'.cell (p:=⟨b,_,none⟩) hlt).trans h2;clear h1 h2 hcc hc hc1 hb0;have HA:Hid (∀j,j<k->Db base f g j=true):=hall;clear hall;by_cases t1:Ed (f k) 1 9999=true
     ·go_wp2_with(first|(go_at_call 94;refine(GJ _ _).mono ?_;rintro e w' ⟨rfl,rfl⟩)|(go_at_call 95;refine(Ku _ _).mono ?_;rintro e w' ⟨rfl,rfl⟩))
      ·go_ret;refine⟨Ag (GN hlt' (TK ?_)).symm,hB'.alloc (by omega) _⟩;have t2:lastOf f k<f k:=(by assumption);have t3:f k<=lastOf f k∨(g k==base)=true:=(by assumption);rcases t3 with t3|t3
       ·omega
       ·exact t3
      ·have t2:lastOf f k<f k:=(by assumption);have t3:Ed (g k) 0 3=true:=(by assumption);have t4:lastOf f k<f k/\(g k==base)=false:=(by assumption);go_roundw;case rel=>
        refine⟨k+1,by omega,by go_num,by rw[Iw],fun j hj=>?_,hB.alloc (by omega) _⟩;by_cases e:j=k
        ·subst e;exact bo t1 (by omega) t3 t4.2
        ·exact HA.out j (by omega)
       case measure=>simp[intOf];omega
      ·go_ret;have t2:¬Ed (g k) 0 3=true:=(by assumption);exact⟨Ag (GN hlt' (TE (by simpa using t2))).symm,hB'.alloc (by omega) _⟩
      ·go_ret;have t2:f k<=lastOf f k:=(by assumption);exact⟨Ag (GN hlt' (YH t1 t2)).symm,hB'.alloc (by omega) _⟩
     ·have t1':Ed (f k) 1 9999=false:=(by simpa using t1);clear t1;go_wp2_with(first|(go_at_call 94;refine(GJ _ _).mono ?_;rintro e w' ⟨rfl,rfl⟩)|(go_at_call 95;refine(Ku _ _).mono ?_;rintro e w' ⟨rfl,rfl⟩))
      go_ret;exact⟨Ag (GN hlt' (UR t1')).symm,hB'.alloc (by omega) _⟩
    ·have HA:Hid (∀j,j<k->Db base f g j=true):=hall;clear hall hc hc1;go_wp2;go_ret;have e:k=n:=(by omega);subst e;exact⟨Ag (Tu hb (by omega) HA).symm,hB'⟩
 ·have hb':Ed base 0 3=false:=by simpa using hb
  clear hb;go_enter func68,ntmps68
  go_wp2_with(go_at_call 94;refine(GJ _ _).mono ?_;rintro e w' ⟨rfl,rfl⟩)
  go_ret;exact⟨Ag (PY hb').symm,CY _ _⟩
variable {base:Int}{f g:Nat->Int}{k:Nat}
theorem YG(h0:0<k)(h:f k<=f (k-1)):Db base f g k=false:=by
 have e:¬k=0:=by omega
 have:decide (f (k-1)<f k)=false:=by simp;omega
 simp[Db,e,this]
theorem Uc(h1:Ed (f k) 1 9999=true)(h3:Ed (g k) 0 3=true)(h4:(g k==base)=false)(h:k=0∨f (k-1)<f k):Db base f g k=true:=by
 rcases h with h|h<;>simp_all[Db]
theorem GC(base:Int)(a:Option Addr)(n cap:Nat)(f g:Nat->Int)(w:World)(hn:n<=maxLen)(hc:Bi w a n f g):
 Calls prog 77 #[.agg #[.int .i64 base,.slice a n cap]] w fun e w'=>e= .returned (.bool (AO base n f g))/\Below w w w':=by
 unfold maxLen at hn;by_cases hb:Ed base 0 3=true
 ·by_cases h12:12<n
  ·have h12':(12:Int)<(n:Int):=(by omega);go_enter func77,ntmps77
   go_wp2_with(go_at_call 51;refine(BN _ _ _ _).mono ?_;rintro e w' ⟨rfl,rfl⟩)
   go_ret;exact⟨Ag (QY h12).symm,CY _ _⟩
  ·have h12':¬(12:Int)<(n:Int):=(by omega);have n1:No (.cells #[.int .i64 base,.slice a n cap] 44):=⟨⟩;have hb0:=(Below.refl _ w).alloc nr n1;have hc1:=hc.below hb0;go_enter func77,ntmps77
   go_wp2_with(go_at_call 51;refine(BN _ _ _ _).mono ?_;rintro e w' ⟨rfl,rfl⟩)
   go_loopw [3] (fun i wr=>∃k:Nat,k<=n/\i= .int .i64 k/\(∀j,j<k->Db base f g j=true)/\Below (w.heap.size+1) (w.alloc n1) wr) (fun i _=>n-(intOf i).toNat)
   case atStart=>exact⟨0,Nat.zero_le _,rfl,fun j hj=>by omega,Below.refl _ _⟩
   case round=>
    obtain⟨k,hk,rfl,hall,hB⟩:=hrel;have x0:wr.cell? ⟨w,0,none⟩=some (.int .i64 base):=(hB.cell (p:=⟨w,0,none⟩) (by simp)).trans (by simp);have y0:wr.cell? ⟨w,1,none⟩=some (.slice a n cap):=(hB.cell (p:=⟨w,1,none⟩) (by simp)).trans (by simp);have hB':Below w w wr:=hb0.trans (hB.mono (by omega));have zz:w.heap.size<wr.heap.size:=(by have:=hB.size;simp at this;omega);by_cases hlt':k<n
    ·obtain⟨b,off,rfl,hlt,hcc⟩:=hc (by omega);obtain⟨h1,h2⟩:=hcc k hlt';have zb:b<wr.heap.size:=(by omega);have g1:wr.cell? ⟨b,off+k*2,none⟩=some (.int .i64 (f k)):=(hB'.cell (p:=⟨b,_,none⟩) hlt).trans h1;have g2:wr.cell? ⟨b,off+k*2+1,none⟩=some (.int .i64 (g k)):=(hB'.cell (p:=⟨b,_,none⟩) hlt).trans h2;have x1:∀o,(wr.alloc o).cell? ⟨w,0,none⟩=some (.int .i64 base):=fun o=>(((Below.refl _ wr).alloc nr o).cell (p:=⟨w,0,none⟩) zz).trans x0;have y1:∀o,(wr.alloc o).cell? ⟨w,1,none⟩=some (.slice (some ⟨b,off,none⟩) n cap):=fun o=>(((Below.refl _ wr).alloc nr o).cell (p:=⟨w,1,none⟩) zz).trans y0;have i0:(0:Int)<=(k:Int):=(by omega);have i1:(k:Int)<(n:Int):=(by omega);have HA:Hid (∀j,j<k->Db base f g j=true):=hall;clear h1 h2 hc hc1 hb0 hall;by_cases t1:Ed (f k) 1 9999=true
     ·by_cases t3:Ed (g k) 0 3=true
      ·by_cases t4:(g k==base)=true
       ·have t4':g k=base:=(by simpa using t4);clear t4;go_wp2_with fail
        go_quiet((go_at_call 51;exact Calls.quiet_of_same (BN _ _ _ _)))
        go_wp2;go_ret;exact⟨Ag (GN hlt' (TK (by simpa using t4'))).symm,below_drewN (hB'.alloc (by omega) _) _⟩
       ·have t4':(g k==base)=false:=(by simpa using t4);clear t4;by_cases k0:k=0
        ·have d0:decide ((0:Int)<(k:Int))=false:=(by simp;omega);have d1:decide (0<k)=false:=(by simp;omega);have K0:Hid (k=0):=k0;clear k0;go_wp2_with fail
         go_quiet((go_at_call 51;exact Calls.quiet_of_same (BN _ _ _ _)))
         go_wp2;go_roundw;case rel=>
          refine⟨k+1,by omega,by go_num,fun j hj=>?_,below_drewN (hB.alloc (by omega) _) _⟩;by_cases e:j=k
          ·subst e;exact Uc t1 t3 t4' (.inl K0)
          ·exact HA.out j (by omega)
         case measure=>simp[intOf];omega
        ·obtain⟨m,rfl⟩:∃m,k=m+1:=⟨k-1,by omega⟩;have d0:(0:Int)<((m+1:Nat):Int):=(by omega);have q1:∀o,(wr.alloc o).cell? ⟨b,off+m*2,none⟩=some (.int .i64 (f m)):=fun o=>(((Below.refl _ wr).alloc nr o).cell (p:=⟨b,off+m*2,none⟩) zb).trans ((hB'.cell (p:=⟨b,_,none⟩) hlt).trans (hcc m (by omega)).1);have j1:((m:Nat):Int)<(n:Int):=(by omega);clear hcc;by_cases t5:f (m+1)<=f m
         ·have d5:decide (f (m+1)<=f m)=true:=(by simpa using t5);go_wp2_with fail
          go_quiet((go_at_call 51;exact Calls.quiet_of_same (BN _ _ _ _)))
          go_wp2;go_ret;exact⟨Ag (GN hlt' (YG (by omega) t5)).symm,below_drewN (hB'.alloc (by omega) _) _⟩
         ·have d5:decide (f (m+1)<=f m)=false:=(by simpa using t5);go_wp2_with fail
          go_quiet((go_at_call 51;exact Calls.quiet_of_same (BN _ _ _ _)))
          go_wp2;go_roundw;case rel=>
           refine⟨m+1+1,by omega,by go_num,fun j hj=>?_,below_drewN (hB.alloc (by omega) _) _⟩;by_cases e:j=(m+1)
           ·subst e;exact Uc t1 t3 t4' (.inr (by simpa using t5))
           ·exact HA.out j (by omega)
          case measure=>simp[intOf];omega
      ·have t3':Ed (g k) 0 3=false:=(by simpa using t3);clear t3;go_wp2_with fail
       go_quiet((go_at_call 51;exact Calls.quiet_of_same (BN _ _ _ _)))
       go_wp2;go_ret;exact⟨Ag (GN hlt' (TE t3')).symm,below_drewN (hB'.alloc (by omega) _) _⟩
     ·have t1':Ed (f k) 1 9999=false:=(by simpa using t1);clear t1;go_wp2_with fail
      go_quiet((go_at_call 51;exact Calls.quiet_of_same (BN _ _ _ _)))
      go_wp2;go_ret;exact⟨Ag (GN hlt' (UR t1')).symm,below_drewN (hB'.alloc (by omega) _) _⟩
    ·have HA:Hid (∀j,j<k->Db base f g j=true):=hall;clear hall hc hc1;go_wp2;go_ret;have e:k=n:=(by omega);subst e;exact⟨Ag (Tu hb (by omega) HA).symm,hB'⟩
 ·have hb':Ed base 0 3=false:=by simpa using hb
  clear hb;go_enter func77,ntmps77
  go_wp2_with(go_at_call 51;refine(BN _ _ _ _).mono ?_;rintro e w' ⟨rfl,rfl⟩)
  go_ret;exact⟨Ag (PY hb').symm,CY _ _⟩
variable {w:World}{n:Nat}{h:Nat->Int}
def Ce(w:World)(a:Option Addr)(n:Nat)(h:Nat->Int):Prop:=
 0<n->∃b off,a=some ⟨b,off,none⟩/\b<w.heap.size/\∀i,i<n->w.cell? ⟨b,off+i,none⟩=some (.int .i64 (h i))
theorem Ce.below{w':World}{a:Option Addr}(hc:Ce w a n h)(hb:Below w w w'):Ce w' a n h:=fun hn=>by
 obtain⟨b,off,rfl,hlt,hc⟩:=hc hn;obtain⟨h1,_⟩:=Oc hb;exact⟨b,off,rfl,Nat.lt_of_lt_of_le hlt hb.size,fun i hi=>by rw[h1 _ _ hlt];exact hc i hi⟩
theorem Ce.row{b:Nat}{t:TypeId}(hr:w.rowIs b t n (fun i=> .int .i64 (h i))):Ce w (some ⟨b,0,none⟩) n h:=fun _=>
 ⟨b,0,rfl,hr.lt,fun i hi=>by rw[Nat.zero_add];exact hr.cell hi⟩
theorem Tryz.info2:(prog.info? 2).map (fun i=>(i.zero,i.size,i.bytes))=some (some (.int .i64 0),1,8):=by kernel_rfl
variable {n k:Nat}{h:Nat->Int}
def Ds(h:Nat->Int)(i:Nat):Bool:=Ed (h i) 1 9999&&(i==0||decide (h (i-1)<h i))
def Cg(n:Nat)(h:Nat->Int):Bool:=decide (n<=10)&&(List.range n).all (Ds h)
theorem Yh(e:10<n):Cg n h=false:=by
 have:decide (n<=10)=false:=by simp;omega
 simp[Cg,this]
theorem Ls(hk:k<n)(e:Ds h k=false):Cg n h=false:=by
 have:(List.range n).all (Ds h)=false:=by
  rw[List.all_eq_false];exact⟨k,List.mem_range.2 hk,by simp[e]⟩
 simp[Cg,this]
theorem QH(e:∀i,i<n->Ds h i=true):Cg n h=decide (n<=10):=by
 have:(List.range n).all (Ds h)=true:=by
  rw[List.all_eq_true];intro i hi;exact e i (List.mem_range.1 hi)
 simp[Cg,this]
theorem Yb(e:Cg n h=true):n<=10/\∀i,i<n->Ds h i=true:=by
 simp only[Cg,Bool.and_eq_true,decide_eq_true_eq,List.all_eq_true,List.mem_range]at e;exact e
theorem TF(e:Ed (h k) 1 9999=false):Ds h k=false:=by simp[Ds,e]
theorem Zj(h0:Ed (h k) 1 9999=true)(e:h k<=lastOf h k):Ds h k=false:=by
 have h0:=Cv.1 h0;by_cases e0:k=0
 ·subst e0;simp[lastOf]at e;omega
 ·simp[lastOf,e0]at e;have:decide (h (k-1)<h k)=false:=by simp;omega
  simp[Ds,e0,this]
theorem an(h1:Ed (h k) 1 9999=true)(h2:lastOf h k<h k):Ds h k=true:=by
 by_cases e:k=0
 ·subst e;simp_all[Ds]
 ·simp[lastOf,e]at h2;simp[Ds,h1,h2]
theorem Zb(h0:0<k)(e:h k<=h (k-1)):Ds h k=false:=by
 have e0:¬k=0:=by omega
 have:decide (h (k-1)<h k)=false:=by simp;omega
 simp[Ds,e0,this]
theorem Uu(h1:Ed (h k) 1 9999=true)(e:k=0∨h (k-1)<h k):Ds h k=true:=by
 rcases e with e|e<;>simp_all[Ds]
theorem PX(a:Option Addr)(n cap:Nat)(h:Nat->Int)(w:World)(hn:n<=maxLen)(hc:Ce w a n h):
 Calls prog 80 #[.slice a n cap] w fun e w'=>e= .returned (.bool (Cg n h))/\w'=w:=by
 unfold maxLen at hn;by_cases h10:10<n
 ·have h10':(10:Int)<(n:Int):=by omega
  go_enter func80,ntmps80
  go_wp2;go_ret;exact⟨Ag (Yh h10).symm,rfl⟩
 ·have h10':¬(10:Int)<(n:Int):=by omega
  go_enter func80,ntmps80
  go_wp2;go_loop [3,11] (fun l i=>∃k:Nat,k<=n/\i= .int .i64 k/\l= .int .i64 (lastOf h k)/\(∀j,j<k->Ds h j=true)) (fun _ i=>n-(intOf i).toNat)
  case atStart=>exact⟨0,Nat.zero_le _,rfl,rfl,fun j hj=>by omega⟩
  case round=>
   obtain⟨k,hk,rfl,rfl,hall⟩:=hrel;have HA:Hid (∀j,j<k->Ds h j=true):=hall;clear hall;by_cases hlt':k<n
   ·obtain⟨b,off,rfl,hlt,hcc⟩:=hc (by omega);have g1:=hcc k hlt';clear hcc hc;by_cases t1:Ed (h k) 1 9999=true
    ·go_wp2_with(go_at_call 95;refine(Ku _ _).mono ?_;rintro e w' ⟨rfl,rfl⟩)
     ·go_ret;have t2:h k<=lastOf h k:=(by assumption);exact⟨Ag (Ls hlt' (Zj t1 t2)).symm,rfl⟩
     ·have t2:lastOf h k<h k:=(by assumption);go_round;case rel=>
       refine⟨k+1,by omega,by go_num,by rw[Iw],fun j hj=>?_⟩;by_cases e:j=k
       ·subst e;exact an t1 t2
       ·exact HA.out j (by omega)
      case measure=>simp[intOf];omega
    ·have t1':Ed (h k) 1 9999=false:=(by simpa using t1);clear t1;go_wp2_with(go_at_call 95;refine(Ku _ _).mono ?_;rintro e w' ⟨rfl,rfl⟩)
     go_ret;exact⟨Ag (Ls hlt' (TF t1')).symm,rfl⟩
   ·clear hc;go_wp2;go_ret;have e:k=n:=(by omega);subst e;exact⟨Ag (by rw[QH HA.out];simp;omega),rfl⟩
theorem NS(a:Option Addr)(n cap:Nat)(h:Nat->Int)(w:World)(hn:n<=maxLen)(hc:Ce w a n h):
 Calls prog 78 #[.slice a n cap] w fun e w'=>e= .returned (.bool (Cg n h))/\Below w w w':=by
 unfold maxLen at hn;go_enter func78,ntmps78
 go_wp2;go_loopw [3] (fun i wr=>∃k:Nat,k<=n/\i= .int .i64 k/\(∀j,j<k->Ds h j=true)/\Below w w wr) (fun i _=>n-(intOf i).toNat)
 case atStart=>exact⟨0,Nat.zero_le _,rfl,fun j hj=>by omega,Below.refl _ _⟩
 case round=>
  obtain⟨k,hk,rfl,hall,hB⟩:=hrel;have HA:Hid (∀j,j<k->Ds h j=true):=hall;clear hall;by_cases hlt':k<n
  ·obtain⟨b,off,rfl,hlt,hcc⟩:=hc (by omega);have g1:wr.cell? ⟨b,off+k,none⟩=some (.int .i64 (h k)):=(hB.cell (p:=⟨b,_,none⟩) hlt).trans (hcc k hlt');have i0:(0:Int)<=(k:Int):=(by omega);have i1:(k:Int)<(n:Int):=(by omega);clear hc;by_cases t1:Ed (h k) 1 9999=true
   ·by_cases k0:k=0
    ·have d0:decide ((0:Int)<(k:Int))=false:=(by simp;omega);have d1:decide (0<k)=false:=(by simp;omega);have K0:Hid (k=0):=k0;clear k0 hcc;go_wp2_with fail
     go_quiet((go_at_call 51;exact Calls.quiet_of_same (BN _ _ _ _)))
     go_wp2;go_roundw;case rel=>
      refine⟨k+1,by omega,by go_num,fun j hj=>?_,below_drewN hB _⟩;by_cases e:j=k
      ·subst e;exact Uu t1 (.inl K0)
      ·exact HA.out j (by omega)
     case measure=>simp[intOf];omega
    ·obtain⟨m,rfl⟩:∃m,k=m+1:=⟨k-1,by omega⟩;have d0:(0:Int)<((m+1:Nat):Int):=(by omega);have q1:wr.cell? ⟨b,off+m,none⟩=some (.int .i64 (h m)):=(hB.cell (p:=⟨b,_,none⟩) hlt).trans (hcc m (by omega));have j1:((m:Nat):Int)<(n:Int):=(by omega);clear hcc;by_cases t5:h (m+1)<=h m
     ·have d5:decide (h (m+1)<=h m)=true:=(by simpa using t5);go_wp2_with fail
      go_quiet((go_at_call 51;exact Calls.quiet_of_same (BN _ _ _ _)))
      go_wp2;go_ret;exact⟨Ag (Ls hlt' (Zb (by omega) t5)).symm,below_drewN hB _⟩
     ·have d5:decide (h (m+1)<=h m)=false:=(by simpa using t5);go_wp2_with fail
      go_quiet((go_at_call 51;exact Calls.quiet_of_same (BN _ _ _ _)))
      go_wp2;go_roundw;case rel=>
       refine⟨m+1+1,by omega,by go_num,fun j hj=>?_,below_drewN hB _⟩;by_cases e:j=m+1
       ·subst e;exact Uu t1 (.inr (by simpa using t5))
       ·exact HA.out j (by omega)
      case measure=>simp[intOf];omega
   ·have t1':Ed (h k) 1 9999=false:=(by simpa using t1);clear t1 hcc;go_wp2_with fail
    go_quiet((go_at_call 51;exact Calls.quiet_of_same (BN _ _ _ _)))
    go_wp2;go_ret;exact⟨Ag (Ls hlt' (TF t1')).symm,below_drewN hB _⟩
  ·clear hc;go_wp2;go_ret;have e:k=n:=(by omega);subst e;exact⟨Ag (by rw[QH HA.out];exact decide_eq_decide.2 (by omega)),hB⟩
end Go.Proofs.YtblapfnglojgjaaGreatDoor
