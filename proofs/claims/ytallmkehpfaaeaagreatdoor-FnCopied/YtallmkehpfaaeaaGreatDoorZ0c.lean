import Derived.Deep.RegionHeld3
import Derived.Test.YtallmkehpfaaeaaGreatDoorProg
import Derived.ProofKit
import Derived.Shelf.Abstract
import Derived.WalkKit
import Derived.WalkSpells
import Derived.WalkLawsBesides
import Derived.Below
import Derived.Deep.OwnRows
import Derived.Deep.QuietTactic
import Derived.BigQuiet
set_option maxHeartbeats 1000000
namespace Go.Proofs.YtallmkehpfaaeaaGreatDoor
open Go
section
variable {P:Program}{ops:Array Oper}{Q:Exit->Act->World->Prop}{md:Region.Mode}{S:World->Prop}{m:Nat}
def BZ(P:Program)(md:Region.Mode)(ops:Array Oper)(Q:Exit->Act->World->Prop)(S:World->Prop)(m:Nat):Nat->Array Bool->Act->World->Prop
 |0,listed,a,w=>Region.ready md ops listed=[]/\Q .normal a w
 |fuel+1,listed,a,w=>
  (Region.ready md ops listed=[]->Q .normal a w)/\
  ∀i∈Region.ready md ops listed,wpOp P ops Q i (fun a' w'=>((listed.setIfInBounds i true).getD m false=false->S w')/\BZ P md ops Q S m fuel (listed.setIfInBounds i true) a' w') a w
theorem MJ:∀(fuel:Nat) (listed:Array Bool) (a:Act) (w:World),BZ P md ops Q S m fuel listed a w->wpAny P md ops Q fuel listed a w
 |0,_,_,_,h=>h
 |fuel+1,_,_,_,h=>⟨h.1,fun i hi=>wpOp_mono (fun a' w' h'=>MJ fuel _ a' w' h'.2) (h.2 i hi)⟩
def waits(md:Region.Mode)(ops:Array Oper)(m i:Nat):Bool:=match ops[m]? with
 |some o=>o.after.any fun e=>Region.binds md e&&(e.on==i)
 |none=>false
theorem Pd{i:Nat}{oi:Oper}{v:Value}(hi:ops[i]? =some oi)(hsel:∀(j:Nat) (o:Oper) cs b,ops[j]? =some o->o.op≠ .select cs b)
 (hQ:∀c a w,Q (.panic c) (a.put oi.dst v) w->Q (.panic c) a w)(hwait:(waits md ops m i||decide (ops.size<=m))=true)(him:i≠m):
 ∀(fuel:Nat) (listed:Array Bool) (a:Act) (w:World),
  (∀j oj,ops[j]? =some oj->j≠i->listed.getD j true=false->(∀e∈oj.after,Region.binds md e=true->e.on≠i)->oi.apart ops oj=true)->
  i∈Region.ready md ops listed->YieldsIf P ops S oi v a->S w->listed.getD m false=false->
  BZ P md ops Q S m fuel (listed.setIfInBounds i true) (a.put oi.dst v) w->BZ P md ops Q S m (fuel+1) listed a w:=by
 intro fuel;induction fuel with
 |zero=>
  intro listed a w _ hr hy hS _ H;refine⟨fun h=>(by rw[h]at hr;cases hr),fun j hj=>?_⟩;by_cases hji:j=i
  ·subst hji;exact hy.wpOp hi hS ⟨fun _=>hS,H⟩
  ·have:=ready_mono hj hji;rw[H.1]at this;cases this
 |succ fuel ih=>
  intro listed a w hfree hr hy hS hm H;refine⟨fun h=>(by rw[h]at hr;cases hr),fun j hj=>?_⟩;by_cases hji:j=i
  ·subst hji;exact hy.wpOp hi hS ⟨fun _=>hS,H⟩
  ·have h1:=H.2 j (ready_mono hj hji);obtain⟨hjun,oj,hoj,hall⟩:=mem_ready.1 hj;have hnot:∀e∈oj.after,Region.binds md e=true->e.on≠i:=fun e he hb heq=>by
    have h1:=hall e he hb;have h0:=(mem_ready.1 hr).1;rw[heq]at h1;rcases Nat.lt_or_ge i listed.size with h'|h'
    ·simp[h']at h0 h1;rw[h0]at h1;cases h1
    ·simp[Array.getElem?_eq_none h']at h1
   have hjm:j≠m:=fun e=>by
    subst e;simp only[Bool.or_eq_true,decide_eq_true_eq]at hwait;rcases hwait with hwait|hwait;rotate_left
    ·have:=(Array.getElem?_eq_some_iff.1 hoj).1;omega
    unfold waits at hwait;rw[hoj]at hwait;simp only[Array.any_eq_true]at hwait;obtain⟨x,hx,hb⟩:=hwait;simp only[Bool.and_eq_true,beq_iff_eq]at hb;exact hnot _ (Array.getElem_mem hx) hb.1 hb.2
   have h2:=wpOp_putIf hoj (hfree j oj hoj hji hjun hnot) (fun cs b=>hsel i oi cs b hi) (fun cs b=>hsel j oj cs b hoj) hQ hy h1;have hfree':∀k ok,ops[k]? =some ok->k≠i->(listed.setIfInBounds j true).getD k true=false->
    (∀e∈ok.after,Region.binds md e=true->e.on≠i)->oi.apart ops ok=true:=fun k ok hk hki hun hno=>by
    refine hfree k ok hk hki ?_ hno;by_cases hjk:j=k
    ·subst hjk;exact hjun
    ·rw[getD_set_ne true hjk]at hun;exact hun
   have hm2:(listed.setIfInBounds j true).getD m false=false:=(by rw[getD_set_ne false hjm];exact hm);have hm3:((listed.setIfInBounds i true).setIfInBounds j true).getD m false=false:=(by rw[getD_set_ne false hjm,getD_set_ne false him];exact hm);refine wpOp_mono (fun a' w' h3=>⟨fun _=>h3.2.1 hm3,ih (listed.setIfInBounds j true) a' w' hfree' (ready_mono hr (Ne.symm hji)) h3.1 (h3.2.1 hm3) hm2 ?_⟩) h2;rw[Array.setIfInBounds_comm _ _ hji];exact h3.2.2
theorem Qd{i:Nat}{oi:Oper}{v:Value}{fuel:Nat}{listed:Array Bool}{a:Act}{w:World}(hi:ops[i]? =some oi)
 (hs:Region.noSelect ops=true)(hf:Region.free md ops listed i=true)(hr:(Region.ready md ops listed).contains i=true)
 (hwait:(waits md ops m i||decide (ops.size<=m))=true)(him:(i==m)=false)(hm:listed.getD m false=false)
 (hQ:∀c a w,Q (.panic c) (a.put oi.dst v) w->Q (.panic c) a w)(hy:YieldsIf P ops S oi v a)(hS:S w)
 (h:BZ P md ops Q S m fuel (listed.setIfInBounds i true) (a.put oi.dst v) w):BZ P md ops Q S m (fuel+1) listed a w:=
 Pd hi (Region.noSelect_spec hs) hQ hwait (by simpa using him) fuel listed a w (Region.free_spec hi hf) (by simpa using hr) hy hS hm h
theorem AR{i d:Nat}{oi:Oper}(v:Value){fuel:Nat}{listed:Array Bool}{a:Act}{w:World}(hi:ops[i]? =some oi)(hd:oi.dst=some d)
 (hs:Region.noSelect ops=true)(hf:Region.free md ops listed i=true)(hr:(Region.ready md ops listed).contains i=true)
 (hwait:(waits md ops m i||decide (ops.size<=m))=true)(him:(i==m)=false)(hm:listed.getD m false=false)
 (hQ:∀c a w,Q (.panic c) (a.put (some d) v) w->Q (.panic c) a w)(hy:YieldsIf P ops S oi v a)(hS:S w)
 (h:BZ P md ops Q S m fuel (listed.setIfInBounds i true) (a.put (some d) v) w):BZ P md ops Q S m (fuel+1) listed a w:=
 Qd hi hs hf hr hwait him hm (by rw[hd];exact hQ) hy hS (by rw[hd];exact h)
theorem QK{i d:Nat}{oi:Oper}{fuel:Nat}{listed:Array Bool}{a:Act}{w:World}(hi:ops[i]? =some oi)(hd:oi.dst=some d)
 (hs:Region.noSelect ops=true)(hf:Region.free md ops listed i=true)(hr:(Region.ready md ops listed).contains i=true)
 (hwait:(waits md ops m i||decide (ops.size<=m))=true)(him:(i==m)=false)(hm:listed.getD m false=false)
 (hQ:∀c a w,Q (.panic c) (a.put (some d) undef) w->Q (.panic c) a w)(hun:Region.wanted oi (yielded ops a.tmps)=false)(hS:S w)
 (h:BZ P md ops Q S m fuel (listed.setIfInBounds i true) (a.put (some d) undef) w):BZ P md ops Q S m (fuel+1) listed a w:=
 AR undef hi hd hs hf hr hwait him hm hQ (Or.inr ⟨hun,rfl⟩) hS h
theorem Ac{i:Nat}{o:Oper}{fuel:Nat}{listed:Array Bool}{a:Act}{w:World}(hr:Region.ready md ops listed=[i])(ho:ops[i]? =some o)
 (h:∀K':Act->World->Prop,Shut (∀a w,((listed.setIfInBounds i true).getD m false=false->S w)->BZ P md ops Q S m fuel (listed.setIfInBounds i true) a w->K' a w)->if Region.wanted o (yielded ops a.tmps)=true then Oper.wp P o a w K' Q else K' (a.put o.dst undef) w):
 BZ P md ops Q S m (fuel+1) listed a w:=
 ⟨fun h0=>(by rw[hr]at h0;cases h0),fun j hj=>by
   rw[hr]at hj;obtain rfl:=List.mem_singleton.1 hj;exact wpOp_step ho (fun K' hK=>h K' (fun a w hS hW=>hK a w ⟨hS,hW⟩))⟩
theorem Ak{listed:Array Bool}{a:Act}{w:World}(hr:Region.ready md ops listed=[])(h:Q .normal a w):
 ∀fuel,BZ P md ops Q S m fuel listed a w
 |0=>⟨hr,h⟩
 |_+1=>⟨fun _=>h,by rw[hr];simp⟩
theorem An{id:Nat}{a:Act}{w:World}(m:Nat)(S:World->Prop)(hm:P.follows .mixedOrders=true)
 (h:BZ P .any ops Q S m ops.size (Array.replicate ops.size false) a w.drew):(Code.region id ops true).wp P Q a w:=
 wp_region_any hm (MJ _ _ _ _ h)
end
open Go.Proofs.Tryz
theorem Ba{ops:Array Oper}{o:Oper}{a:Act}{w:World}{K:Act->World->Prop}{Q:Exit->Act->World->Prop}{E:Prop}(hw:Region.wanted o (yielded ops a.tmps)=true)(f:Nat)(x:Operand)(ats:Array TypeId)
 (ho:o.op= .call {callee:= .value (.func f),args:=#[x],argTypes:=ats})(eg:∀args w,(callFunc f args).run prog w= .ok (.enter f args) w)(v0:Value)(hv:a.eval x=v0)
 (d:Option Nat)(hd:o.dst=d)(R:Value->World->Prop)(hc:Calls prog f #[v0] w fun e w'=>∃v,e= .returned v/\R v w')(h:∀v w',R v w'->K (a.put d v) w'):
 if Region.wanted o (yielded ops a.tmps)=true then Oper.wp prog o a w K Q else E:=by
 rw[if_pos hw];have e:(execOp a.eval o).run prog w= .ok (.enter f #[v0]) w:=by
  unfold execOp;simp only[ho,resolve,invoke,Sem.run_bind,List.map_toArray,List.map_cons,List.map_nil,hv];simp[go_sem,eg,Act.eval]
 unfold Oper.wp;rw[e,Oper.upon_enter];exact hc.mono fun e w' ⟨v,he,hr⟩=>by subst he;rw[hd];exact h v w' hr
theorem Ax{ops:Array Oper}{o:Oper}{a:Act}{w:World}{K:Act->World->Prop}{Q:Exit->Act->World->Prop}{E:Prop}(hw:Region.wanted o (yielded ops a.tmps)=true)(f:Nat)(x y:Operand)(ats:Array TypeId)
 (ho:o.op= .call {callee:= .value (.func f),args:=#[x,y],argTypes:=ats})(eg:∀args w,(callFunc f args).run prog w= .ok (.enter f args) w)(v0 v1:Value)(hv:a.eval x=v0)(hv1:a.eval y=v1)
 (d:Option Nat)(hd:o.dst=d)(R:Value->World->Prop)(hc:Calls prog f #[v0,v1] w fun e w'=>∃v,e= .returned v/\R v w')(h:∀v w',R v w'->K (a.put d v) w'):
 if Region.wanted o (yielded ops a.tmps)=true then Oper.wp prog o a w K Q else E:=by
 rw[if_pos hw];have e:(execOp a.eval o).run prog w= .ok (.enter f #[v0,v1]) w:=by
  unfold execOp;simp only[ho,resolve,invoke,Sem.run_bind,List.map_toArray,List.map_cons,List.map_nil,hv,hv1];simp[go_sem,eg,Act.eval]
 unfold Oper.wp;rw[e,Oper.upon_enter];exact hc.mono fun e w' ⟨v,he,hr⟩=>by subst he;rw[hd];exact h v w' hr
theorem DZ{ops:Array Oper}{o:Oper}{a:Act}{w:World}{K:Act->World->Prop}{Q:Exit->Act->World->Prop}{E:Prop}(hw:Region.wanted o (yielded ops a.tmps)=true)(f:Nat)(x y z:Operand)(ats:Array TypeId)
 (ho:o.op= .call {callee:= .value (.func f),args:=#[x,y,z],argTypes:=ats})(eg:∀args w,(callFunc f args).run prog w= .ok (.enter f args) w)(v0 v1 v2:Value)(hv:a.eval x=v0)(hv1:a.eval y=v1)(hv2:a.eval z=v2)
 (d:Option Nat)(hd:o.dst=d)(R:Value->World->Prop)(hc:Calls prog f #[v0,v1,v2] w fun e w'=>∃v,e= .returned v/\R v w')(h:∀v w',R v w'->K (a.put d v) w'):
 if Region.wanted o (yielded ops a.tmps)=true then Oper.wp prog o a w K Q else E:=by
 rw[if_pos hw];have e:(execOp a.eval o).run prog w= .ok (.enter f #[v0,v1,v2]) w:=by
  unfold execOp;simp only[ho,resolve,invoke,Sem.run_bind,List.map_toArray,List.map_cons,List.map_nil,hv,hv1,hv2];simp[go_sem,eg,Act.eval]
 unfold Oper.wp;rw[e,Oper.upon_enter];exact hc.mono fun e w' ⟨v,he,hr⟩=>by subst he;rw[hd];exact h v w' hr
open Go.RowKit
theorem ap(l:List Value)(ds:List Deferred)(d:Nat)(v:Value):Act.put ⟨l.toArray,ds⟩ (some d) v=⟨(l.set d v).toArray,ds⟩:=by
 simp only[Act.put,List.setIfInBounds_toArray]
def Uu(md:Region.Mode)(ops:Array Oper)(m:Nat)(listed:Array Bool)(i:Nat):Bool:=
 Region.noSelect ops&&Region.free md ops listed i&&(Region.ready md ops listed).contains i&&(waits md ops m i||decide (ops.size<=m))&& !(i==m)&& !listed.getD m false
section
variable {P:Program}{md:Region.Mode}{ops:Array Oper}{Q:Exit->Act->World->Prop}{S:World->Prop}{m:Nat}
theorem tk(i d:Nat){oi:Oper}(v:Value){fuel:Nat}{listed:Array Bool}{a:Act}{w:World}(hi:ops[i]? =some oi)(hd:oi.dst=some d)(hk:Uu md ops m listed i=true)
 (hw:Region.wanted oi (yielded ops a.tmps)=true)(hy:∀W,S W->(execOp a.eval oi).run P W= .ok (.value v) W)(hS:S w)
 (h:BZ P md ops Q S m fuel (listed.setIfInBounds i true) (a.put (some d) v) w)(hQ:∀c a w,Q (.panic c) (a.put (some d) v) w->Q (.panic c) a w:=by exact fun _ _ _=>id):BZ P md ops Q S m (fuel+1) listed a w:=by
 unfold Uu at hk;simp only[Bool.and_eq_true,Bool.not_eq_true']at hk;obtain⟨⟨⟨⟨⟨h1,h2⟩,h3⟩,h4⟩,h5⟩,h6⟩:=hk;exact AR v hi hd h1 h2 h3 h4 h5 h6 hQ (Or.inl ⟨hw,hy⟩) hS h
theorem sk(i d:Nat){oi:Oper}{fuel:Nat}{listed:Array Bool}{a:Act}{w:World}(hi:ops[i]? =some oi)(hd:oi.dst=some d)(hk:Uu md ops m listed i=true)
 (hun:Region.wanted oi (yielded ops a.tmps)=false)(hS:S w)
 (h:BZ P md ops Q S m fuel (listed.setIfInBounds i true) (a.put (some d) undef) w)(hQ:∀c a w,Q (.panic c) (a.put (some d) undef) w->Q (.panic c) a w:=by exact fun _ _ _=>id):BZ P md ops Q S m (fuel+1) listed a w:=by
 unfold Uu at hk;simp only[Bool.and_eq_true,Bool.not_eq_true']at hk;obtain⟨⟨⟨⟨⟨h1,h2⟩,h3⟩,h4⟩,h5⟩,h6⟩:=hk;exact QK hi hd h1 h2 h3 h4 h5 h6 hQ hun hS h
theorem tq(i d:Nat){oi:Oper}(v:Value){fuel:Nat}{listed:Array Bool}{a:Act}{w:World}(hS:S w)
 (h:BZ P md ops Q S m fuel (listed.setIfInBounds i true) (a.put (some d) v) w)
 (hi:ops[i]? =some oi:=by rfl)(hd:oi.dst=some d:=by rfl)(hk:Uu md ops m listed i=true:=by kernel_rfl)
 (hw:Region.wanted oi (yielded ops a.tmps)=true:=by rfl)(hy:∀W,S W->(execOp a.eval oi).run P W= .ok (.value v) W:=by intro W h;go_simp)
 (hQ:∀c a w,Q (.panic c) (a.put (some d) v) w->Q (.panic c) a w:=by exact fun _ _ _=>id):BZ P md ops Q S m (fuel+1) listed a w:=
 tk i d v hi hd hk hw hy hS h hQ
def VO(md:Region.Mode)(ops:Array Oper)(m:Nat):List (Nat×Nat)->Array Bool->Array Value->Bool
 |[],_,_=>true
 |(i,d)::l,listed,t=>(match ops[i]? with
  |some oi=>Uu md ops m listed i&&decide (oi.dst=some d)&& !Region.wanted oi (yielded ops t)
  |none=>false)&&VO md ops m l (listed.setIfInBounds i true) (t.setIfInBounds d undef)
def Xo:List (Nat×Nat)->Array Bool->Array Bool
 |[],s=>s
 |(i,_)::l,s=>Xo l (s.setIfInBounds i true)
def Eg:List (Nat×Nat)->Act->Act
 |[],a=>a
 |(_,d)::l,a=>Eg l (a.put (some d) undef)
theorem Nx(n:Nat)(l:List (Nat×Nat)){fuel:Nat}{listed:Array Bool}{a:Act}{w:World}(hn:l.length=n)(hk:VO md ops m l listed a.tmps=true)(hS:S w)
 (h:BZ P md ops Q S m fuel (Xo l listed) (Eg l a) w)(hQ:∀c t t' ds w,Q (.panic c) ⟨t',ds⟩ w->Q (.panic c) ⟨t,ds⟩ w:=by exact fun _ _ _ _ _=>id):BZ P md ops Q S m (fuel+n) listed a w:=by
 subst hn;induction l generalizing listed a with
 |nil=>exact h
 |cons x l ih=>
  obtain⟨i,d⟩:=x;simp only[VO,Bool.and_eq_true]at hk;obtain⟨h1,h2⟩:=hk;cases e:ops[i]? with
  |none=>rw[e]at h1;cases h1
  |some oi=>
   rw[e]at h1;simp only[Bool.and_eq_true,decide_eq_true_eq,Bool.not_eq_true']at h1;refine sk i d e h1.1.2 h1.1.1 h1.2 hS (ih ?_ h) (fun c a w=>hQ c _ _ _ w);exact h2
end
instance:Coe World Nat:=⟨fun w=>w.heap.size⟩
instance:Coe Int Value:=⟨.int .i64⟩
structure Nw(x:World):Type
structure No(x:Obj):Type
structure Na(x:Array Value):Type
structure Nv(x:Value):Type
instance {x:World}:CoeOut (Nw x) World:=⟨fun _=>x⟩
instance {x:Obj}:CoeOut (No x) Obj:=⟨fun _=>x⟩
instance {x:Array Value}:CoeOut (Na x) (Array Value):=⟨fun _=>x⟩
instance {x:Value}:CoeOut (Nv x) Value:=⟨fun _=>x⟩
theorem Af{a b:Bool}(h:a=b):Ending.returned (.bool a)= .returned (.bool b):=by rw[h]
theorem El{k:IntKind}{a b:Int}(h:a=b):Ending.returned (.int k a)= .returned (.int k b):=by rw[h]
theorem Iz{W w1:World}(hb:Below W W w1):(∀b o,b<W.heap.size->w1.cell? ⟨b,o,none⟩=W.cell? ⟨b,o,none⟩)/\(∀b o,b<W.heap.size->w1.frozen? ⟨b,o,none⟩=W.frozen? ⟨b,o,none⟩):=
 ⟨fun b o h=>hb.cell (p:=⟨b,o,none⟩) h,fun b o h=>hb.frozen (p:=⟨b,o,none⟩) h⟩
def Dt(x lo hi:Int):Bool:=decide (lo<=x)&&decide (x<=hi)
theorem Ji{x lo hi:Int}(h:lo<=x):Dt x lo hi=decide (x<=hi):=by simp[Dt,h]
theorem Ln{x lo hi:Int}(h:x<lo):Dt x lo hi=false:=by simp[Dt];omega
theorem BF(x lo hi:Int)(w:World):
 Calls prog 80 #[.int .i64 x,.int .i64 lo,.int .i64 hi] w fun e w'=>e= .returned (.bool (Dt x lo hi))/\w'=w:=by
 go_enter func80,ntmps80
 go_wp2
 ·go_ret;exact⟨Af (Ji ‹_›).symm,rfl⟩
 ·go_ret;exact⟨Af (Ln ‹_›).symm,rfl⟩
theorem GV(x:Int)(w:World):
 Calls prog 89 #[.int .i64 x] w fun e w'=>e= .returned (.bool (Dt x 1 9999))/\w'=w:=by
 go_enter func89,ntmps89
 go_wp2
 ·go_ret;exact⟨Af (Ji ‹_›).symm,rfl⟩
 ·go_ret;exact⟨Af (Ln ‹_›).symm,rfl⟩
theorem FF(x:Int)(w:World):
 Calls prog 88 #[.int .i64 x] w fun e w'=>e= .returned (.bool (Dt x 0 3))/\w'=w:=by
 go_enter func88,ntmps88
 go_wp2
 ·go_ret;exact⟨Af (Ji ‹_›).symm,rfl⟩
 ·go_ret;exact⟨Af (Ln ‹_›).symm,rfl⟩
open Go.Deep
theorem Tryz.info95:(prog.info? 95).map (fun i=>(i.zero,i.size,i.bytes))=some (some (.agg #[.int .i64 0,.int .i64 0]),2,16):=by kernel_rfl
def Cy(f g:Nat->Int)(j:Nat):Value:=if j%2=0 then .int .i64 (f (j/2))else .int .i64 (g (j/2))
def AI(w:World)(a:Option Addr)(n:Nat)(f g:Nat->Int):Prop:=
 0<n->∃b off,a=some ⟨b,off,none⟩/\b<w.heap.size/\∀i,i<n->w.cell? ⟨b,off+i*2,none⟩=some (.int .i64 (f i))/\w.cell? ⟨b,off+i*2+1,none⟩=some (.int .i64 (g i))
theorem AI.below{w w':World}{a:Option Addr}{n:Nat}{f g:Nat->Int}(h:AI w a n f g)(hb:Below w w w'):AI w' a n f g:=fun hn=>by
 obtain⟨b,off,rfl,hlt,hc⟩:=h hn;obtain⟨h1,_⟩:=Iz hb;exact⟨b,off,rfl,Nat.lt_of_lt_of_le hlt hb.size,fun i hi=>by rw[h1 _ _ hlt,h1 _ _ hlt];exact hc i hi⟩
theorem AI.row{w:World}{b n:Nat}{f g:Nat->Int}(h:w.rowIs b 95 (n*2) (Cy f g)):AI w (some ⟨b,0,none⟩) n f g:=fun _=>by
 refine⟨b,0,rfl,h.lt,fun i hi=>⟨?_,?_⟩⟩
 ·have:=h.cell (i:=0+i*2) (by omega);rw[this];have e1:(0+i*2)%2=0:=by omega
  have e2:(0+i*2)/2=i:=by omega
  simp only[Cy,e1,e2,if_true]
 ·have:=h.cell (i:=0+i*2+1) (by omega);rw[this];have e1:¬(0+i*2+1)%2=0:=by omega
  have e2:(0+i*2+1)/2=i:=by omega
  simp only[Cy,e2,if_neg e1]
theorem World.rowIs.below{w w':World}{B b n:Nat}{t:TypeId}{f:Nat->Value}(h:w.rowIs b t n f)(hb:Below B w w')(hB:b<B):w'.rowIs b t n f:=
 h.of_block (hb.block b hB)

def CL(base:Int)(f g:Nat->Int)(i:Nat):Bool:=Dt (f i) 1 9999&&Dt (g i) 0 3&& !(g i==base)&&(i==0||decide (f (i-1)<f i))
def AO(base:Int)(n:Nat)(f g:Nat->Int):Bool:=Dt base 0 3&&decide (n<=12)&&(List.range n).all (CL base f g)
theorem LZ{base:Int}{n:Nat}{f g:Nat->Int}(h:Dt base 0 3=false):AO base n f g=false:=by simp[AO,h]
theorem Nn{base:Int}{n:Nat}{f g:Nat->Int}(h:12<n):AO base n f g=false:=by
 have:decide (n<=12)=false:=by simp;omega
 simp[AO,this]
theorem FG{base:Int}{n k:Nat}{f g:Nat->Int}(hk:k<n)(h:CL base f g k=false):AO base n f g=false:=by
 have:(List.range n).all (CL base f g)=false:=by
  rw[List.all_eq_false];exact⟨k,List.mem_range.2 hk,by simp[h]⟩
 simp[AO,this]
theorem Qw{base:Int}{n:Nat}{f g:Nat->Int}(hb:Dt base 0 3=true)(hn:n<=12)(h:∀i,i<n->CL base f g i=true):AO base n f g=true:=by
 have:(List.range n).all (CL base f g)=true:=by
  rw[List.all_eq_true];intro i hi;exact h i (List.mem_range.1 hi)
 simp[AO,this,hb,hn]
theorem JA{base:Int}{n:Nat}{f g:Nat->Int}(h:AO base n f g=true):Dt base 0 3=true/\n<=12/\∀i,i<n->CL base f g i=true:=by
 simp only[AO,Bool.and_eq_true,decide_eq_true_eq,List.all_eq_true,List.mem_range]at h;exact⟨h.1.1,h.1.2,h.2⟩
theorem Dz{x lo hi:Int}:Dt x lo hi=true↔lo<=x/\x<=hi:=by simp[Dt]
theorem SK{base:Int}{f g:Nat->Int}{i:Nat}:CL base f g i=true↔(1<=f i/\f i<=9999)/\(0<=g i/\g i<=3)/\g i≠base/\(i=0∨f (i-1)<f i):=by
 simp[CL,Dt,and_assoc]
def lastOf(f:Nat->Int)(k:Nat):Int:=if k=0 then 0 else f (k-1)
theorem Gv(f:Nat->Int)(k:Nat):lastOf f (k+1)=f k:=by simp[lastOf]
theorem QR{base:Int}{f g:Nat->Int}{k:Nat}(h:Dt (f k) 1 9999=false):CL base f g k=false:=by simp[CL,h]
theorem UT{base:Int}{f g:Nat->Int}{k:Nat}(h0:Dt (f k) 1 9999=true)(h:f k<=lastOf f k):CL base f g k=false:=by
 have h0:=Dz.1 h0;by_cases e:k=0
 ·subst e;simp[lastOf]at h;omega
 ·simp[lastOf,e]at h;have:decide (f (k-1)<f k)=false:=by simp;omega
  simp[CL,e,this]
theorem Qm{base:Int}{f g:Nat->Int}{k:Nat}(h:Dt (g k) 0 3=false):CL base f g k=false:=by simp[CL,h]
theorem Qj{base:Int}{f g:Nat->Int}{k:Nat}(h:(g k==base)=true):CL base f g k=false:=by simp[CL,h]
theorem WI{base:Int}{f g:Nat->Int}{k:Nat}(h1:Dt (f k) 1 9999=true)(h2:¬f k<=lastOf f k)(h3:Dt (g k) 0 3=true)(h4:(g k==base)=false):CL base f g k=true:=by
 by_cases e:k=0
 ·subst e;simp_all[CL]
 ·simp[lastOf,e]at h2;simp[CL,h1,h3,h4,h2]
theorem Ds(base:Int)(a:Option Addr)(n cap:Nat)(f g:Nat->Int)(w:World)(hn:n<=maxLen)(hc:AI w a n f g):
 Calls prog 45 #[.agg #[.int .i64 base,.slice a n cap]] w fun e w'=>e= .returned (.bool (AO base n f g))/\Below w w w':=by
 unfold maxLen at hn;by_cases hb:Dt base 0 3=true
 ·by_cases h12:12<n
  ·have h12':(12:Int)<(n:Int):=(by omega);go_enter func45,ntmps45
   go_wp2_with(go_at_call 88;refine(FF _ _).mono ?_;rintro e w' ⟨rfl,rfl⟩)
   go_ret;exact⟨Af (Nn h12).symm,(Below.refl _ _).alloc (Nat.le_refl _) _⟩
  ·have h12':¬(12:Int)<(n:Int):=(by omega);have n1:No (.cells #[.int .i64 base,.slice a n cap] 30):=⟨⟩;have hb0:=(Below.refl _ w).alloc (Nat.le_refl _) n1;have hc1:=hc.below hb0;go_enter func45,ntmps45
   go_wp2_with(go_at_call 88;refine(FF _ _).mono ?_;rintro e w' ⟨rfl,rfl⟩)
   go_loopw [3,19] (fun l i wr=>∃k:Nat,k<=n/\i= .int .i64 k/\l= .int .i64 (lastOf f k)/\(∀j,j<k->CL base f g j=true)/\Below (w.heap.size+1) (w.alloc n1) wr) (fun _ i _=>n-(intOf i).toNat)
   case atStart=>exact⟨0,Nat.zero_le _,rfl,rfl,fun j hj=>by omega,Below.refl _ _⟩
   case round=>
    obtain⟨k,hk,rfl,rfl,hall,hB⟩:=hrel;have x0:wr.cell? ⟨w,0,none⟩=some (.int .i64 base):=(hB.cell (p:=⟨w,0,none⟩) (by simp)).trans (by simp);have hB':Below w w wr:=hb0.trans (hB.mono (by omega));have zz:w.heap.size<wr.heap.size:=(by have:=hB.size;simp at this;omega);have x1:∀o,(wr.alloc o).cell? ⟨w,0,none⟩=some (.int .i64 base):=fun o=>(((Below.refl _ wr).alloc (Nat.le_refl _) o).cell (p:=⟨w,0,none⟩) zz).trans x0;by_cases hlt':k<n
    ·obtain⟨b,off,rfl,hlt,hcc⟩:=hc (by omega);obtain⟨h1,h2⟩:=hcc k hlt';have g1:wr.cell? ⟨b,off+k*2,none⟩=some (.int .i64 (f k)):=(hB'.cell (p:=⟨b,_,none⟩) hlt).trans h1;have g2:wr.cell? ⟨b,off+k*2+1,none⟩=some (.int .i64 (g k)):=(hB'.cell (p:=⟨b,_,none⟩) hlt).trans h2;clear h1 h2 hcc hc hc1 hb0;have HA:Hid (∀j,j<k->CL base f g j=true):=hall;clear hall;by_cases t1:Dt (f k) 1 9999=true
     ·go_wp2_with(first|(go_at_call 88;refine(FF _ _).mono ?_;rintro e w' ⟨rfl,rfl⟩)|(go_at_call 89;refine(GV _ _).mono ?_;rintro e w' ⟨rfl,rfl⟩))
      ·go_ret;refine⟨Af (FG hlt' (Qj ?_)).symm,hB'.alloc (by omega) _⟩;have t2:lastOf f k<f k:=(by assumption);have t3:f k<=lastOf f k∨(g k==base)=true:=(by assumption);rcases t3 with t3|t3
       ·omega
       ·exact t3
      ·have t2:lastOf f k<f k:=(by assumption);have t3:Dt (g k) 0 3=true:=(by assumption);have t4:lastOf f k<f k/\(g k==base)=false:=(by assumption);go_roundw;case rel=>
        refine⟨k+1,by omega,by go_num,by rw[Gv],fun j hj=>?_,hB.alloc (by omega) _⟩;by_cases e:j=k
        ·subst e;exact WI t1 (by omega) t3 t4.2
        ·exact HA.out j (by omega)
       case measure=>simp[intOf];omega
      ·go_ret;have t2:¬Dt (g k) 0 3=true:=(by assumption);exact⟨Af (FG hlt' (Qm (by simpa using t2))).symm,hB'.alloc (by omega) _⟩
      ·go_ret;have t2:f k<=lastOf f k:=(by assumption);exact⟨Af (FG hlt' (UT t1 t2)).symm,hB'.alloc (by omega) _⟩
     ·have t1':Dt (f k) 1 9999=false:=(by simpa using t1);clear t1;go_wp2_with(first|(go_at_call 88;refine(FF _ _).mono ?_;rintro e w' ⟨rfl,rfl⟩)|(go_at_call 89;refine(GV _ _).mono ?_;rintro e w' ⟨rfl,rfl⟩))
      go_ret;exact⟨Af (FG hlt' (QR t1')).symm,hB'.alloc (by omega) _⟩
    ·have HA:Hid (∀j,j<k->CL base f g j=true):=hall;clear hall hc hc1;go_wp2;go_ret;have e:k=n:=(by omega);subst e;exact⟨Af (Qw hb (by omega) HA).symm,hB'⟩
 ·have hb':Dt base 0 3=false:=by simpa using hb
  clear hb;go_enter func45,ntmps45
  go_wp2_with(go_at_call 88;refine(FF _ _).mono ?_;rintro e w' ⟨rfl,rfl⟩)
  go_ret;exact⟨Af (LZ hb').symm,(Below.refl _ _).alloc (Nat.le_refl _) _⟩
theorem UL{base:Int}{f g:Nat->Int}{k:Nat}(h0:0<k)(h:f k<=f (k-1)):CL base f g k=false:=by
 have e:¬k=0:=by omega
 have:decide (f (k-1)<f k)=false:=by simp;omega
 simp[CL,e,this]
theorem QI{base:Int}{f g:Nat->Int}{k:Nat}(h1:Dt (f k) 1 9999=true)(h3:Dt (g k) 0 3=true)(h4:(g k==base)=false)(h:k=0∨f (k-1)<f k):CL base f g k=true:=by
 rcases h with h|h<;>simp_all[CL]
theorem Ga(base:Int)(a:Option Addr)(n cap:Nat)(f g:Nat->Int)(w:World)(hn:n<=maxLen)(hc:AI w a n f g):
 Calls prog 112 #[.agg #[.int .i64 base,.slice a n cap]] w fun e w'=>e= .returned (.bool (AO base n f g))/\Below w w w':=by
 unfold maxLen at hn;by_cases hb:Dt base 0 3=true
 ·by_cases h12:12<n
  ·have h12':(12:Int)<(n:Int):=(by omega);go_enter func112,ntmps112
   go_wp2_with(go_at_call 80;refine(BF _ _ _ _).mono ?_;rintro e w' ⟨rfl,rfl⟩)
   go_ret;exact⟨Af (Nn h12).symm,(Below.refl _ _).alloc (Nat.le_refl _) _⟩
  ·have h12':¬(12:Int)<(n:Int):=(by omega);have n1:No (.cells #[.int .i64 base,.slice a n cap] 30):=⟨⟩;have hb0:=(Below.refl _ w).alloc (Nat.le_refl _) n1;have hc1:=hc.below hb0;go_enter func112,ntmps112
   go_wp2_with(go_at_call 80;refine(BF _ _ _ _).mono ?_;rintro e w' ⟨rfl,rfl⟩)
   go_loopw [3] (fun i wr=>∃k:Nat,k<=n/\i= .int .i64 k/\(∀j,j<k->CL base f g j=true)/\Below (w.heap.size+1) (w.alloc n1) wr) (fun i _=>n-(intOf i).toNat)
   case atStart=>exact⟨0,Nat.zero_le _,rfl,fun j hj=>by omega,Below.refl _ _⟩
   case round=>
    obtain⟨k,hk,rfl,hall,hB⟩:=hrel;have x0:wr.cell? ⟨w,0,none⟩=some (.int .i64 base):=(hB.cell (p:=⟨w,0,none⟩) (by simp)).trans (by simp);have y0:wr.cell? ⟨w,1,none⟩=some (.slice a n cap):=(hB.cell (p:=⟨w,1,none⟩) (by simp)).trans (by simp);have hB':Below w w wr:=hb0.trans (hB.mono (by omega));have zz:w.heap.size<wr.heap.size:=(by have:=hB.size;simp at this;omega);by_cases hlt':k<n
    ·obtain⟨b,off,rfl,hlt,hcc⟩:=hc (by omega);obtain⟨h1,h2⟩:=hcc k hlt';have zb:b<wr.heap.size:=(by omega);have g1:wr.cell? ⟨b,off+k*2,none⟩=some (.int .i64 (f k)):=(hB'.cell (p:=⟨b,_,none⟩) hlt).trans h1;have g2:wr.cell? ⟨b,off+k*2+1,none⟩=some (.int .i64 (g k)):=(hB'.cell (p:=⟨b,_,none⟩) hlt).trans h2;have x1:∀o,(wr.alloc o).cell? ⟨w,0,none⟩=some (.int .i64 base):=fun o=>(((Below.refl _ wr).alloc (Nat.le_refl _) o).cell (p:=⟨w,0,none⟩) zz).trans x0;have y1:∀o,(wr.alloc o).cell? ⟨w,1,none⟩=some (.slice (some ⟨b,off,none⟩) n cap):=fun o=>(((Below.refl _ wr).alloc (Nat.le_refl _) o).cell (p:=⟨w,1,none⟩) zz).trans y0;have i0:(0:Int)<=(k:Int):=(by omega);have i1:(k:Int)<(n:Int):=(by omega);have HA:Hid (∀j,j<k->CL base f g j=true):=hall;clear h1 h2 hc hc1 hb0 hall;by_cases t1:Dt (f k) 1 9999=true
     ·by_cases t3:Dt (g k) 0 3=true
      ·by_cases t4:(g k==base)=true
       ·have t4':g k=base:=(by simpa using t4);clear t4;go_wp2_with fail
        go_quiet((go_at_call 80;exact Calls.quiet_of_same (BF _ _ _ _)))
        go_wp2;go_ret;exact⟨Af (FG hlt' (Qj (by simpa using t4'))).symm,below_drewN (hB'.alloc (by omega) _) _⟩
       ·have t4':(g k==base)=false:=(by simpa using t4);clear t4;by_cases k0:k=0
        ·have d0:decide ((0:Int)<(k:Int))=false:=(by simp;omega);have d1:decide (0<k)=false:=(by simp;omega);have K0:Hid (k=0):=k0;clear k0;go_wp2_with fail
         go_quiet((go_at_call 80;exact Calls.quiet_of_same (BF _ _ _ _)))
         go_wp2;go_roundw;case rel=>
          refine⟨k+1,by omega,by go_num,fun j hj=>?_,below_drewN (hB.alloc (by omega) _) _⟩;by_cases e:j=k
          ·subst e;exact QI t1 t3 t4' (.inl K0)
          ·exact HA.out j (by omega)
         case measure=>simp[intOf];omega
        ·obtain⟨m,rfl⟩:∃m,k=m+1:=⟨k-1,by omega⟩;have d0:(0:Int)<((m+1:Nat):Int):=(by omega);have q1:∀o,(wr.alloc o).cell? ⟨b,off+m*2,none⟩=some (.int .i64 (f m)):=fun o=>(((Below.refl _ wr).alloc (Nat.le_refl _) o).cell (p:=⟨b,off+m*2,none⟩) zb).trans ((hB'.cell (p:=⟨b,_,none⟩) hlt).trans (hcc m (by omega)).1);have j1:((m:Nat):Int)<(n:Int):=(by omega);clear hcc;by_cases t5:f (m+1)<=f m
         ·have d5:decide (f (m+1)<=f m)=true:=(by simpa using t5);go_wp2_with fail
          go_quiet((go_at_call 80;exact Calls.quiet_of_same (BF _ _ _ _)))
          go_wp2;go_ret;exact⟨Af (FG hlt' (UL (by omega) t5)).symm,below_drewN (hB'.alloc (by omega) _) _⟩
         ·have d5:decide (f (m+1)<=f m)=false:=(by simpa using t5);go_wp2_with fail
          go_quiet((go_at_call 80;exact Calls.quiet_of_same (BF _ _ _ _)))
          go_wp2;go_roundw;case rel=>
           refine⟨m+1+1,by omega,by go_num,fun j hj=>?_,below_drewN (hB.alloc (by omega) _) _⟩;by_cases e:j=(m+1)
           ·subst e;exact QI t1 t3 t4' (.inr (by simpa using t5))
           ·exact HA.out j (by omega)
          case measure=>simp[intOf];omega
      ·have t3':Dt (g k) 0 3=false:=(by simpa using t3);clear t3;go_wp2_with fail
       go_quiet((go_at_call 80;exact Calls.quiet_of_same (BF _ _ _ _)))
       go_wp2;go_ret;exact⟨Af (FG hlt' (Qm t3')).symm,below_drewN (hB'.alloc (by omega) _) _⟩
     ·have t1':Dt (f k) 1 9999=false:=(by simpa using t1);clear t1;go_wp2_with fail
      go_quiet((go_at_call 80;exact Calls.quiet_of_same (BF _ _ _ _)))
      go_wp2;go_ret;exact⟨Af (FG hlt' (QR t1')).symm,below_drewN (hB'.alloc (by omega) _) _⟩
    ·have HA:Hid (∀j,j<k->CL base f g j=true):=hall;clear hall hc hc1;go_wp2;go_ret;have e:k=n:=(by omega);subst e;exact⟨Af (Qw hb (by omega) HA).symm,hB'⟩
 ·have hb':Dt base 0 3=false:=by simpa using hb
  clear hb;go_enter func112,ntmps112
  go_wp2_with(go_at_call 80;refine(BF _ _ _ _).mono ?_;rintro e w' ⟨rfl,rfl⟩)
  go_ret;exact⟨Af (LZ hb').symm,(Below.refl _ _).alloc (Nat.le_refl _) _⟩
def AX(w:World)(a:Option Addr)(n:Nat)(h:Nat->Int):Prop:=
 0<n->∃b off,a=some ⟨b,off,none⟩/\b<w.heap.size/\∀i,i<n->w.cell? ⟨b,off+i,none⟩=some (.int .i64 (h i))
theorem AX.below{w w':World}{a:Option Addr}{n:Nat}{h:Nat->Int}(hc:AX w a n h)(hb:Below w w w'):AX w' a n h:=fun hn=>by
 obtain⟨b,off,rfl,hlt,hc⟩:=hc hn;obtain⟨h1,_⟩:=Iz hb;exact⟨b,off,rfl,Nat.lt_of_lt_of_le hlt hb.size,fun i hi=>by rw[h1 _ _ hlt];exact hc i hi⟩
theorem AX.row{w:World}{b n:Nat}{t:TypeId}{h:Nat->Int}(hr:w.rowIs b t n (fun i=> .int .i64 (h i))):AX w (some ⟨b,0,none⟩) n h:=fun _=>
 ⟨b,0,rfl,hr.lt,fun i hi=>by rw[Nat.zero_add];exact hr.cell hi⟩
theorem Tryz.info2:(prog.info? 2).map (fun i=>(i.zero,i.size,i.bytes))=some (some (.int .i64 0),1,8):=by kernel_rfl
def Do(h:Nat->Int)(i:Nat):Bool:=Dt (h i) 1 9999&&(i==0||decide (h (i-1)<h i))
def BH(n:Nat)(h:Nat->Int):Bool:=decide (n<=10)&&(List.range n).all (Do h)
theorem Ui{n:Nat}{h:Nat->Int}(e:10<n):BH n h=false:=by
 have:decide (n<=10)=false:=by simp;omega
 simp[BH,this]
theorem Jd{n k:Nat}{h:Nat->Int}(hk:k<n)(e:Do h k=false):BH n h=false:=by
 have:(List.range n).all (Do h)=false:=by
  rw[List.all_eq_false];exact⟨k,List.mem_range.2 hk,by simp[e]⟩
 simp[BH,this]
theorem NU{n:Nat}{h:Nat->Int}(e:∀i,i<n->Do h i=true):BH n h=decide (n<=10):=by
 have:(List.range n).all (Do h)=true:=by
  rw[List.all_eq_true];intro i hi;exact e i (List.mem_range.1 hi)
 simp[BH,this]
theorem UC{n:Nat}{h:Nat->Int}(e:BH n h=true):n<=10/\∀i,i<n->Do h i=true:=by
 simp only[BH,Bool.and_eq_true,decide_eq_true_eq,List.all_eq_true,List.mem_range]at e;exact e
theorem QF{h:Nat->Int}{k:Nat}(e:Dt (h k) 1 9999=false):Do h k=false:=by simp[Do,e]
theorem UK{h:Nat->Int}{k:Nat}(h0:Dt (h k) 1 9999=true)(e:h k<=lastOf h k):Do h k=false:=by
 have h0:=Dz.1 h0;by_cases e0:k=0
 ·subst e0;simp[lastOf]at e;omega
 ·simp[lastOf,e0]at e;have:decide (h (k-1)<h k)=false:=by simp;omega
  simp[Do,e0,this]
theorem Wy{h:Nat->Int}{k:Nat}(h1:Dt (h k) 1 9999=true)(h2:lastOf h k<h k):Do h k=true:=by
 by_cases e:k=0
 ·subst e;simp_all[Do]
 ·simp[lastOf,e]at h2;simp[Do,h1,h2]
theorem VX{h:Nat->Int}{k:Nat}(h0:0<k)(e:h k<=h (k-1)):Do h k=false:=by
 have e0:¬k=0:=by omega
 have:decide (h (k-1)<h k)=false:=by simp;omega
 simp[Do,e0,this]
theorem PY{h:Nat->Int}{k:Nat}(h1:Dt (h k) 1 9999=true)(e:k=0∨h (k-1)<h k):Do h k=true:=by
 rcases e with e|e<;>simp_all[Do]
theorem Hb(a:Option Addr)(n cap:Nat)(h:Nat->Int)(w:World)(hn:n<=maxLen)(hc:AX w a n h):
 Calls prog 55 #[.slice a n cap] w fun e w'=>e= .returned (.bool (BH n h))/\w'=w:=by
 unfold maxLen at hn;by_cases h10:10<n
 ·have h10':(10:Int)<(n:Int):=by omega
  go_enter func55,ntmps55
  go_wp2;go_ret;exact⟨Af (Ui h10).symm,rfl⟩
 ·have h10':¬(10:Int)<(n:Int):=by omega
  go_enter func55,ntmps55
  go_wp2;go_loop [3,11] (fun l i=>∃k:Nat,k<=n/\i= .int .i64 k/\l= .int .i64 (lastOf h k)/\(∀j,j<k->Do h j=true)) (fun _ i=>n-(intOf i).toNat)
  case atStart=>exact⟨0,Nat.zero_le _,rfl,rfl,fun j hj=>by omega⟩
  case round=>
   obtain⟨k,hk,rfl,rfl,hall⟩:=hrel;have HA:Hid (∀j,j<k->Do h j=true):=hall;clear hall;by_cases hlt':k<n
   ·obtain⟨b,off,rfl,hlt,hcc⟩:=hc (by omega);have g1:=hcc k hlt';clear hcc hc;by_cases t1:Dt (h k) 1 9999=true
    ·go_wp2_with(go_at_call 89;refine(GV _ _).mono ?_;rintro e w' ⟨rfl,rfl⟩)
     ·go_ret;have t2:h k<=lastOf h k:=(by assumption);exact⟨Af (Jd hlt' (UK t1 t2)).symm,rfl⟩
     ·have t2:lastOf h k<h k:=(by assumption);go_round;case rel=>
       refine⟨k+1,by omega,by go_num,by rw[Gv],fun j hj=>?_⟩;by_cases e:j=k
       ·subst e;exact Wy t1 t2
       ·exact HA.out j (by omega)
      case measure=>simp[intOf];omega
    ·have t1':Dt (h k) 1 9999=false:=(by simpa using t1);clear t1;go_wp2_with(go_at_call 89;refine(GV _ _).mono ?_;rintro e w' ⟨rfl,rfl⟩)
     go_ret;exact⟨Af (Jd hlt' (QF t1')).symm,rfl⟩
   ·clear hc;go_wp2;go_ret;have e:k=n:=(by omega);subst e;exact⟨Af (by rw[NU HA.out];simp;omega),rfl⟩
theorem MG(a:Option Addr)(n cap:Nat)(h:Nat->Int)(w:World)(hn:n<=maxLen)(hc:AX w a n h):
 Calls prog 113 #[.slice a n cap] w fun e w'=>e= .returned (.bool (BH n h))/\Below w w w':=by
 unfold maxLen at hn;go_enter func113,ntmps113
 go_wp2;go_loopw [3] (fun i wr=>∃k:Nat,k<=n/\i= .int .i64 k/\(∀j,j<k->Do h j=true)/\Below w w wr) (fun i _=>n-(intOf i).toNat)
 case atStart=>exact⟨0,Nat.zero_le _,rfl,fun j hj=>by omega,Below.refl _ _⟩
 case round=>
  obtain⟨k,hk,rfl,hall,hB⟩:=hrel;have HA:Hid (∀j,j<k->Do h j=true):=hall;clear hall;by_cases hlt':k<n
  ·obtain⟨b,off,rfl,hlt,hcc⟩:=hc (by omega);have g1:wr.cell? ⟨b,off+k,none⟩=some (.int .i64 (h k)):=(hB.cell (p:=⟨b,_,none⟩) hlt).trans (hcc k hlt');have i0:(0:Int)<=(k:Int):=(by omega);have i1:(k:Int)<(n:Int):=(by omega);clear hc;by_cases t1:Dt (h k) 1 9999=true
   ·by_cases k0:k=0
    ·have d0:decide ((0:Int)<(k:Int))=false:=(by simp;omega);have d1:decide (0<k)=false:=(by simp;omega);have K0:Hid (k=0):=k0;clear k0 hcc;go_wp2_with fail
     go_quiet((go_at_call 80;exact Calls.quiet_of_same (BF _ _ _ _)))
     go_wp2;go_roundw;case rel=>
      refine⟨k+1,by omega,by go_num,fun j hj=>?_,below_drewN hB _⟩;by_cases e:j=k
      ·subst e;exact PY t1 (.inl K0)
      ·exact HA.out j (by omega)
     case measure=>simp[intOf];omega
    ·obtain⟨m,rfl⟩:∃m,k=m+1:=⟨k-1,by omega⟩;have d0:(0:Int)<((m+1:Nat):Int):=(by omega);have q1:wr.cell? ⟨b,off+m,none⟩=some (.int .i64 (h m)):=(hB.cell (p:=⟨b,_,none⟩) hlt).trans (hcc m (by omega));have j1:((m:Nat):Int)<(n:Int):=(by omega);clear hcc;by_cases t5:h (m+1)<=h m
     ·have d5:decide (h (m+1)<=h m)=true:=(by simpa using t5);go_wp2_with fail
      go_quiet((go_at_call 80;exact Calls.quiet_of_same (BF _ _ _ _)))
      go_wp2;go_ret;exact⟨Af (Jd hlt' (VX (by omega) t5)).symm,below_drewN hB _⟩
     ·have d5:decide (h (m+1)<=h m)=false:=(by simpa using t5);go_wp2_with fail
      go_quiet((go_at_call 80;exact Calls.quiet_of_same (BF _ _ _ _)))
      go_wp2;go_roundw;case rel=>
       refine⟨m+1+1,by omega,by go_num,fun j hj=>?_,below_drewN hB _⟩;by_cases e:j=m+1
       ·subst e;exact PY t1 (.inr (by simpa using t5))
       ·exact HA.out j (by omega)
      case measure=>simp[intOf];omega
   ·have t1':Dt (h k) 1 9999=false:=(by simpa using t1);clear t1 hcc;go_wp2_with fail
    go_quiet((go_at_call 80;exact Calls.quiet_of_same (BF _ _ _ _)))
    go_wp2;go_ret;exact⟨Af (Jd hlt' (QF t1')).symm,below_drewN hB _⟩
  ·clear hc;go_wp2;go_ret;have e:k=n:=(by omega);subst e;exact⟨Af (by rw[NU HA.out];exact decide_eq_decide.2 (by omega)),hB⟩
end Go.Proofs.YtallmkehpfaaeaaGreatDoor
