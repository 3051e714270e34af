import Derived.Deep.RegionHeld3
import Derived.Test.YtmikapeeflcbfaaGreatDoorProg
import Derived.ProofKit
import Derived.Shelf.Abstract
import Derived.WalkKit
import Derived.WalkSpells
import Derived.WalkLawsBesides
import Derived.Below
import Derived.Deep.OwnRows
import Derived.Deep.QuietTactic
import Derived.BigQuiet
set_option maxHeartbeats 1000000
namespace Go.Proofs.YtmikapeeflcbfaaGreatDoor
open Go
section
variable {P:Program}{ops:Array Oper}{Q:Exit->Act->World->Prop}{md:Region.Mode}{S:World->Prop}{m:Nat}
def Cr(P:Program)(md:Region.Mode)(ops:Array Oper)(Q:Exit->Act->World->Prop)(S:World->Prop)(m:Nat):Nat->Array Bool->Act->World->Prop
 |0,listed,a,w=>Region.ready md ops listed=[]/\Q .normal a w
 |fuel+1,listed,a,w=>
  (Region.ready md ops listed=[]->Q .normal a w)/\
  ∀i∈Region.ready md ops listed,wpOp P ops Q i (fun a' w'=>((listed.setIfInBounds i true).getD m false=false->S w')/\Cr P md ops Q S m fuel (listed.setIfInBounds i true) a' w') a w
theorem Me:∀(fuel:Nat) (listed:Array Bool) (a:Act) (w:World),Cr P md ops Q S m fuel listed a w->wpAny P md ops Q fuel listed a w
 |0,_,_,_,h=>h
 |fuel+1,_,_,_,h=>⟨h.1,fun i hi=>wpOp_mono (fun a' w' h'=>Me fuel _ a' w' h'.2) (h.2 i hi)⟩
def waits(md:Region.Mode)(ops:Array Oper)(m i:Nat):Bool:=match ops[m]? with
 |some o=>o.after.any fun e=>Region.binds md e&&(e.on==i)
 |none=>false
theorem QU{i:Nat}{oi:Oper}{v:Value}(hi:ops[i]? =some oi)(hsel:∀(j:Nat) (o:Oper) cs b,ops[j]? =some o->o.op≠ .select cs b)
 (hQ:∀c a w,Q (.panic c) (a.put oi.dst v) w->Q (.panic c) a w)(hwait:(waits md ops m i||decide (ops.size<=m))=true)(him:i≠m):
 ∀(fuel:Nat) (listed:Array Bool) (a:Act) (w:World),
  (∀j oj,ops[j]? =some oj->j≠i->listed.getD j true=false->(∀e∈oj.after,Region.binds md e=true->e.on≠i)->oi.apart ops oj=true)->
  i∈Region.ready md ops listed->YieldsIf P ops S oi v a->S w->listed.getD m false=false->
  Cr P md ops Q S m fuel (listed.setIfInBounds i true) (a.put oi.dst v) w->Cr P md ops Q S m (fuel+1) listed a w:=by
 intro fuel;induction fuel with
 |zero=>
  intro listed a w _ hr hy hS _ H;refine⟨fun h=>(by rw[h]at hr;cases hr),fun j hj=>?_⟩;by_cases hji:j=i
  ·subst hji;exact hy.wpOp hi hS ⟨fun _=>hS,H⟩
  ·have:=ready_mono hj hji;rw[H.1]at this;cases this
 |succ fuel ih=>
  intro listed a w hfree hr hy hS hm H;refine⟨fun h=>(by rw[h]at hr;cases hr),fun j hj=>?_⟩;by_cases hji:j=i
  ·subst hji;exact hy.wpOp hi hS ⟨fun _=>hS,H⟩
  ·have h1:=H.2 j (ready_mono hj hji);obtain⟨hjun,oj,hoj,hall⟩:=mem_ready.1 hj;have hnot:∀e∈oj.after,Region.binds md e=true->e.on≠i:=fun e he hb heq=>by
    have h1:=hall e he hb;have h0:=(mem_ready.1 hr).1;rw[heq]at h1;rcases Nat.lt_or_ge i listed.size with h'|h'
    ·simp[h']at h0 h1;rw[h0]at h1;cases h1
    ·simp[Array.getElem?_eq_none h']at h1
   have hjm:j≠m:=fun e=>by
    subst e;simp only[Bool.or_eq_true,decide_eq_true_eq]at hwait;rcases hwait with hwait|hwait;rotate_left
    ·have:=(Array.getElem?_eq_some_iff.1 hoj).1;omega
    unfold waits at hwait;rw[hoj]at hwait;simp only[Array.any_eq_true]at hwait;obtain⟨x,hx,hb⟩:=hwait;simp only[Bool.and_eq_true,beq_iff_eq]at hb;exact hnot _ (Array.getElem_mem hx) hb.1 hb.2
   have h2:=wpOp_putIf hoj (hfree j oj hoj hji hjun hnot) (fun cs b=>hsel i oi cs b hi) (fun cs b=>hsel j oj cs b hoj) hQ hy h1;have hfree':∀k ok,ops[k]? =some ok->k≠i->(listed.setIfInBounds j true).getD k true=false->
    (∀e∈ok.after,Region.binds md e=true->e.on≠i)->oi.apart ops ok=true:=fun k ok hk hki hun hno=>by
    refine hfree k ok hk hki ?_ hno;by_cases hjk:j=k
    ·subst hjk;exact hjun
    ·rw[getD_set_ne true hjk]at hun;exact hun
   have hm2:(listed.setIfInBounds j true).getD m false=false:=(by rw[getD_set_ne false hjm];exact hm);have hm3:((listed.setIfInBounds i true).setIfInBounds j true).getD m false=false:=(by rw[getD_set_ne false hjm,getD_set_ne false him];exact hm);refine wpOp_mono (fun a' w' h3=>⟨fun _=>h3.2.1 hm3,ih (listed.setIfInBounds j true) a' w' hfree' (ready_mono hr (Ne.symm hji)) h3.1 (h3.2.1 hm3) hm2 ?_⟩) h2;rw[Array.setIfInBounds_comm _ _ hji];exact h3.2.2
theorem Rr{i:Nat}{oi:Oper}{v:Value}{fuel:Nat}{listed:Array Bool}{a:Act}{w:World}(hi:ops[i]? =some oi)
 (hs:Region.noSelect ops=true)(hf:Region.free md ops listed i=true)(hr:(Region.ready md ops listed).contains i=true)
 (hwait:(waits md ops m i||decide (ops.size<=m))=true)(him:(i==m)=false)(hm:listed.getD m false=false)
 (hQ:∀c a w,Q (.panic c) (a.put oi.dst v) w->Q (.panic c) a w)(hy:YieldsIf P ops S oi v a)(hS:S w)
 (h:Cr P md ops Q S m fuel (listed.setIfInBounds i true) (a.put oi.dst v) w):Cr P md ops Q S m (fuel+1) listed a w:=
 QU hi (Region.noSelect_spec hs) hQ hwait (by simpa using him) fuel listed a w (Region.free_spec hi hf) (by simpa using hr) hy hS hm h
theorem BU{i d:Nat}{oi:Oper}(v:Value){fuel:Nat}{listed:Array Bool}{a:Act}{w:World}(hi:ops[i]? =some oi)(hd:oi.dst=some d)
 (hs:Region.noSelect ops=true)(hf:Region.free md ops listed i=true)(hr:(Region.ready md ops listed).contains i=true)
 (hwait:(waits md ops m i||decide (ops.size<=m))=true)(him:(i==m)=false)(hm:listed.getD m false=false)
 (hQ:∀c a w,Q (.panic c) (a.put (some d) v) w->Q (.panic c) a w)(hy:YieldsIf P ops S oi v a)(hS:S w)
 (h:Cr P md ops Q S m fuel (listed.setIfInBounds i true) (a.put (some d) v) w):Cr P md ops Q S m (fuel+1) listed a w:=
 Rr hi hs hf hr hwait him hm (by rw[hd];exact hQ) hy hS (by rw[hd];exact h)
theorem SN{i d:Nat}{oi:Oper}{fuel:Nat}{listed:Array Bool}{a:Act}{w:World}(hi:ops[i]? =some oi)(hd:oi.dst=some d)
 (hs:Region.noSelect ops=true)(hf:Region.free md ops listed i=true)(hr:(Region.ready md ops listed).contains i=true)
 (hwait:(waits md ops m i||decide (ops.size<=m))=true)(him:(i==m)=false)(hm:listed.getD m false=false)
 (hQ:∀c a w,Q (.panic c) (a.put (some d) undef) w->Q (.panic c) a w)(hun:Region.wanted oi (yielded ops a.tmps)=false)(hS:S w)
 (h:Cr P md ops Q S m fuel (listed.setIfInBounds i true) (a.put (some d) undef) w):Cr P md ops Q S m (fuel+1) listed a w:=
 BU undef hi hd hs hf hr hwait him hm hQ (Or.inr ⟨hun,rfl⟩) hS h
theorem Af{i:Nat}{o:Oper}{fuel:Nat}{listed:Array Bool}{a:Act}{w:World}(hr:Region.ready md ops listed=[i])(ho:ops[i]? =some o)
 (h:∀K':Act->World->Prop,Shut (∀a w,((listed.setIfInBounds i true).getD m false=false->S w)->Cr P md ops Q S m fuel (listed.setIfInBounds i true) a w->K' a w)->if Region.wanted o (yielded ops a.tmps)=true then Oper.wp P o a w K' Q else K' (a.put o.dst undef) w):
 Cr P md ops Q S m (fuel+1) listed a w:=
 ⟨fun h0=>(by rw[hr]at h0;cases h0),fun j hj=>by
   rw[hr]at hj;obtain rfl:=List.mem_singleton.1 hj;exact wpOp_step ho (fun K' hK=>h K' (fun a w hS hW=>hK a w ⟨hS,hW⟩))⟩
theorem Aj{listed:Array Bool}{a:Act}{w:World}(hr:Region.ready md ops listed=[])(h:Q .normal a w):
 ∀fuel,Cr P md ops Q S m fuel listed a w
 |0=>⟨hr,h⟩
 |_+1=>⟨fun _=>h,by rw[hr];simp⟩
theorem Am{id:Nat}{a:Act}{w:World}(m:Nat)(S:World->Prop)(hm:P.follows .mixedOrders=true)
 (h:Cr P .any ops Q S m ops.size (Array.replicate ops.size false) a w.drew):(Code.region id ops true).wp P Q a w:=
 wp_region_any hm (Me _ _ _ _ h)
end
open Go.Proofs.Tryz
theorem Az{ops:Array Oper}{o:Oper}{a:Act}{w:World}{K:Act->World->Prop}{Q:Exit->Act->World->Prop}{E:Prop}(hw:Region.wanted o (yielded ops a.tmps)=true)(f:Nat)(x:Operand)(ats:Array TypeId)
 (ho:o.op= .call {callee:= .value (.func f),args:=#[x],argTypes:=ats})(eg:∀args w,(callFunc f args).run prog w= .ok (.enter f args) w)(v0:Value)(hv:a.eval x=v0)
 (d:Option Nat)(hd:o.dst=d)(R:Value->World->Prop)(hc:Calls prog f #[v0] w fun e w'=>∃v,e= .returned v/\R v w')(h:∀v w',R v w'->K (a.put d v) w'):
 if Region.wanted o (yielded ops a.tmps)=true then Oper.wp prog o a w K Q else E:=by
 rw[if_pos hw];have e:(execOp a.eval o).run prog w= .ok (.enter f #[v0]) w:=by
  unfold execOp;simp only[ho,resolve,invoke,Sem.run_bind,List.map_toArray,List.map_cons,List.map_nil,hv];simp[go_sem,eg,Act.eval]
 unfold Oper.wp;rw[e,Oper.upon_enter];exact hc.mono fun e w' ⟨v,he,hr⟩=>by subst he;rw[hd];exact h v w' hr
theorem Bb{ops:Array Oper}{o:Oper}{a:Act}{w:World}{K:Act->World->Prop}{Q:Exit->Act->World->Prop}{E:Prop}(hw:Region.wanted o (yielded ops a.tmps)=true)(f:Nat)(x y:Operand)(ats:Array TypeId)
 (ho:o.op= .call {callee:= .value (.func f),args:=#[x,y],argTypes:=ats})(eg:∀args w,(callFunc f args).run prog w= .ok (.enter f args) w)(v0 v1:Value)(hv:a.eval x=v0)(hv1:a.eval y=v1)
 (d:Option Nat)(hd:o.dst=d)(R:Value->World->Prop)(hc:Calls prog f #[v0,v1] w fun e w'=>∃v,e= .returned v/\R v w')(h:∀v w',R v w'->K (a.put d v) w'):
 if Region.wanted o (yielded ops a.tmps)=true then Oper.wp prog o a w K Q else E:=by
 rw[if_pos hw];have e:(execOp a.eval o).run prog w= .ok (.enter f #[v0,v1]) w:=by
  unfold execOp;simp only[ho,resolve,invoke,Sem.run_bind,List.map_toArray,List.map_cons,List.map_nil,hv,hv1];simp[go_sem,eg,Act.eval]
 unfold Oper.wp;rw[e,Oper.upon_enter];exact hc.mono fun e w' ⟨v,he,hr⟩=>by subst he;rw[hd];exact h v w' hr
theorem Ey{ops:Array Oper}{o:Oper}{a:Act}{w:World}{K:Act->World->Prop}{Q:Exit->Act->World->Prop}{E:Prop}(hw:Region.wanted o (yielded ops a.tmps)=true)(f:Nat)(x y z:Operand)(ats:Array TypeId)
 (ho:o.op= .call {callee:= .value (.func f),args:=#[x,y,z],argTypes:=ats})(eg:∀args w,(callFunc f args).run prog w= .ok (.enter f args) w)(v0 v1 v2:Value)(hv:a.eval x=v0)(hv1:a.eval y=v1)(hv2:a.eval z=v2)
 (d:Option Nat)(hd:o.dst=d)(R:Value->World->Prop)(hc:Calls prog f #[v0,v1,v2] w fun e w'=>∃v,e= .returned v/\R v w')(h:∀v w',R v w'->K (a.put d v) w'):
 if Region.wanted o (yielded ops a.tmps)=true then Oper.wp prog o a w K Q else E:=by
 rw[if_pos hw];have e:(execOp a.eval o).run prog w= .ok (.enter f #[v0,v1,v2]) w:=by
  unfold execOp;simp only[ho,resolve,invoke,Sem.run_bind,List.map_toArray,List.map_cons,List.map_nil,hv,hv1,hv2];simp[go_sem,eg,Act.eval]
 unfold Oper.wp;rw[e,Oper.upon_enter];exact hc.mono fun e w' ⟨v,he,hr⟩=>by subst he;rw[hd];exact h v w' hr
open Go.RowKit
theorem ap(l:List Value)(ds:List Deferred)(d:Nat)(v:Value):Act.put ⟨l.toArray,ds⟩ (some d) v=⟨(l.set d v).toArray,ds⟩:=by
 simp only[Act.put,List.setIfInBounds_toArray]
def Vb(md:Region.Mode)(ops:Array Oper)(m:Nat)(listed:Array Bool)(i:Nat):Bool:=
 Region.noSelect ops&&Region.free md ops listed i&&(Region.ready md ops listed).contains i&&(waits md ops m i||decide (ops.size<=m))&& !(i==m)&& !listed.getD m false
section
variable {P:Program}{md:Region.Mode}{ops:Array Oper}{Q:Exit->Act->World->Prop}{S:World->Prop}{m:Nat}
theorem tk(i d:Nat){oi:Oper}(v:Value){fuel:Nat}{listed:Array Bool}{a:Act}{w:World}(hi:ops[i]? =some oi)(hd:oi.dst=some d)(hk:Vb md ops m listed i=true)
 (hw:Region.wanted oi (yielded ops a.tmps)=true)(hy:∀W,S W->(execOp a.eval oi).run P W= .ok (.value v) W)(hS:S w)
 (h:Cr P md ops Q S m fuel (listed.setIfInBounds i true) (a.put (some d) v) w)(hQ:∀c a w,Q (.panic c) (a.put (some d) v) w->Q (.panic c) a w:=by exact fun _ _ _=>id):Cr P md ops Q S m (fuel+1) listed a w:=by
 unfold Vb at hk;simp only[Bool.and_eq_true,Bool.not_eq_true']at hk;obtain⟨⟨⟨⟨⟨h1,h2⟩,h3⟩,h4⟩,h5⟩,h6⟩:=hk;exact BU v hi hd h1 h2 h3 h4 h5 h6 hQ (Or.inl ⟨hw,hy⟩) hS h
theorem sk(i d:Nat){oi:Oper}{fuel:Nat}{listed:Array Bool}{a:Act}{w:World}(hi:ops[i]? =some oi)(hd:oi.dst=some d)(hk:Vb md ops m listed i=true)
 (hun:Region.wanted oi (yielded ops a.tmps)=false)(hS:S w)
 (h:Cr P md ops Q S m fuel (listed.setIfInBounds i true) (a.put (some d) undef) w)(hQ:∀c a w,Q (.panic c) (a.put (some d) undef) w->Q (.panic c) a w:=by exact fun _ _ _=>id):Cr P md ops Q S m (fuel+1) listed a w:=by
 unfold Vb at hk;simp only[Bool.and_eq_true,Bool.not_eq_true']at hk;obtain⟨⟨⟨⟨⟨h1,h2⟩,h3⟩,h4⟩,h5⟩,h6⟩:=hk;exact SN hi hd h1 h2 h3 h4 h5 h6 hQ hun hS h
theorem tq(i d:Nat){oi:Oper}(v:Value){fuel:Nat}{listed:Array Bool}{a:Act}{w:World}(hS:S w)
 (h:Cr P md ops Q S m fuel (listed.setIfInBounds i true) (a.put (some d) v) w)
 (hi:ops[i]? =some oi:=by rfl)(hd:oi.dst=some d:=by rfl)(hk:Vb md ops m listed i=true:=by kernel_rfl)
 (hw:Region.wanted oi (yielded ops a.tmps)=true:=by rfl)(hy:∀W,S W->(execOp a.eval oi).run P W= .ok (.value v) W:=by intro W h;go_simp)
 (hQ:∀c a w,Q (.panic c) (a.put (some d) v) w->Q (.panic c) a w:=by exact fun _ _ _=>id):Cr P md ops Q S m (fuel+1) listed a w:=
 tk i d v hi hd hk hw hy hS h hQ
def WL(md:Region.Mode)(ops:Array Oper)(m:Nat):List (Nat×Nat)->Array Bool->Array Value->Bool
 |[],_,_=>true
 |(i,d)::l,listed,t=>(match ops[i]? with
  |some oi=>Vb md ops m listed i&&decide (oi.dst=some d)&& !Region.wanted oi (yielded ops t)
  |none=>false)&&WL md ops m l (listed.setIfInBounds i true) (t.setIfInBounds d undef)
def Zn:List (Nat×Nat)->Array Bool->Array Bool
 |[],s=>s
 |(i,_)::l,s=>Zn l (s.setIfInBounds i true)
def Eb:List (Nat×Nat)->Act->Act
 |[],a=>a
 |(_,d)::l,a=>Eb l (a.put (some d) undef)
theorem Nu(n:Nat)(l:List (Nat×Nat)){fuel:Nat}{listed:Array Bool}{a:Act}{w:World}(hn:l.length=n)(hk:WL md ops m l listed a.tmps=true)(hS:S w)
 (h:Cr P md ops Q S m fuel (Zn l listed) (Eb l a) w)(hQ:∀c t t' ds w,Q (.panic c) ⟨t',ds⟩ w->Q (.panic c) ⟨t,ds⟩ w:=by exact fun _ _ _ _ _=>id):Cr P md ops Q S m (fuel+n) listed a w:=by
 subst hn;induction l generalizing listed a with
 |nil=>exact h
 |cons x l ih=>
  obtain⟨i,d⟩:=x;simp only[WL,Bool.and_eq_true]at hk;obtain⟨h1,h2⟩:=hk;cases e:ops[i]? with
  |none=>rw[e]at h1;cases h1
  |some oi=>
   rw[e]at h1;simp only[Bool.and_eq_true,decide_eq_true_eq,Bool.not_eq_true']at h1;refine sk i d e h1.1.2 h1.1.1 h1.2 hS (ih ?_ h) (fun c a w=>hQ c _ _ _ w);exact h2
end
instance:Coe World Nat:=⟨fun w=>w.heap.size⟩
instance:Coe Int Value:=⟨.int .i64⟩
structure Nw(x:World):Type
structure No(x:Obj):Type
structure Na(x:Array Value):Type
structure Nv(x:Value):Type
instance {x:World}:CoeOut (Nw x) World:=⟨fun _=>x⟩
instance {x:Obj}:CoeOut (No x) Obj:=⟨fun _=>x⟩
instance {x:Array Value}:CoeOut (Na x) (Array Value):=⟨fun _=>x⟩
instance {x:Value}:CoeOut (Nv x) Value:=⟨fun _=>x⟩
theorem Ag{a b:Bool}(h:a=b):Ending.returned (.bool a)= .returned (.bool b):=by rw[h]
theorem CZ{k:IntKind}{a b:Int}(h:a=b):Ending.returned (.int k a)= .returned (.int k b):=by rw[h]
theorem DY{W w1:World}(hb:Below W W w1):(∀b o,b<W.heap.size->w1.cell? ⟨b,o,none⟩=W.cell? ⟨b,o,none⟩)/\(∀b o,b<W.heap.size->w1.frozen? ⟨b,o,none⟩=W.frozen? ⟨b,o,none⟩):=
 ⟨fun b o h=>hb.cell (p:=⟨b,o,none⟩) h,fun b o h=>hb.frozen (p:=⟨b,o,none⟩) h⟩
def Dv(x lo hi:Int):Bool:=decide (lo<=x)&&decide (x<=hi)
theorem JE{x lo hi:Int}(h:lo<=x):Dv x lo hi=decide (x<=hi):=by simp[Dv,h]
theorem MN{x lo hi:Int}(h:x<lo):Dv x lo hi=false:=by simp[Dv];omega
theorem BM(x lo hi:Int)(w:World):
 Calls prog 42 #[.int .i64 x,.int .i64 lo,.int .i64 hi] w fun e w'=>e= .returned (.bool (Dv x lo hi))/\w'=w:=by
 go_enter func42,ntmps42
 go_wp2
 ·go_ret;exact⟨Ag (JE ‹_›).symm,rfl⟩
 ·go_ret;exact⟨Ag (MN ‹_›).symm,rfl⟩
theorem He(x:Int)(w:World):
 Calls prog 129 #[.int .i64 x] w fun e w'=>e= .returned (.bool (Dv x 1 9999))/\w'=w:=by
 go_enter func129,ntmps129
 go_wp2
 ·go_ret;exact⟨Ag (JE ‹_›).symm,rfl⟩
 ·go_ret;exact⟨Ag (MN ‹_›).symm,rfl⟩
theorem FC(x:Int)(w:World):
 Calls prog 128 #[.int .i64 x] w fun e w'=>e= .returned (.bool (Dv x 0 3))/\w'=w:=by
 go_enter func128,ntmps128
 go_wp2
 ·go_ret;exact⟨Ag (JE ‹_›).symm,rfl⟩
 ·go_ret;exact⟨Ag (MN ‹_›).symm,rfl⟩
theorem Ws(x y:Int)(w:World):
 Calls prog 97 #[.agg #[.int .i64 x,.int .i64 y]] w fun e w'=>e= .returned (.agg #[.int .i64 x,.int .i64 y])/\Below w w w':=by
 go_enter func97,ntmps97
 go_wp2;exact bodyPost_ret (v:= .agg #[.int .i64 x,.int .i64 y]) (by simp[results,Tryz.results97,go_sem]) rfl ⟨rfl,(((Below.refl _ _).alloc (Nat.le_refl _) _).alloc (by simp) _).alloc (by simp;omega) _⟩
theorem VK(x y u v:Int)(w:World):
 Calls prog 123 #[.agg #[.int .i64 x,.int .i64 y],.agg #[.int .i64 u,.int .i64 v]] w fun e w'=>e= .returned (.bool (x==u&&y==v))/\Below w w w':=by
 go_enter func123,ntmps123
 go_wp2;all_goals
  go_ret;exact⟨Ag (by simp_all),((Below.refl _ _).alloc (Nat.le_refl _) _).alloc (by simp) _⟩
def Gc(n:Nat)(left:Int):Int:=if left-n<0 then-1 else left-n
theorem Tj(a:Option Addr)(n cap:Nat)(left:Int)(w:World)(hn:n<=maxLen)(h0:0<=left)(h1:left<=1048576):
 Calls prog 37 #[.slice a n cap,.int .i64 left] w fun e w'=>e= .returned (.int .i64 (Gc n left))/\w'=w:=by
 unfold maxLen at hn;go_enter func37,ntmps37
 go_wp2
 ·go_ret;exact⟨CZ (by unfold Gc;rw[if_pos (by omega)]),rfl⟩
 ·go_ret;exact⟨CZ (by unfold Gc;rw[if_neg (by omega)]),rfl⟩
theorem YK(n:Nat)(left:Int)(h0:0<=left): -1<=Gc n left/\Gc n left<=left:=by unfold Gc;split<;>omega
theorem FG(base:Int)(a:Option Addr)(n cap:Nat)(left:Int)(w:World)(hn:n<=maxLen)(h0:0<=left)(h1:left<=1048576):
 Calls prog 17 #[.agg #[.int .i64 base,.slice a n cap],.int .i64 left] w fun e w'=>e= .returned (.int .i64 (Gc n left))/\Below w w w':=by
 have hs:=YK n left h0;go_enter func17,ntmps17
 go_wp2_with(go_at_call 37;refine(Tj _ _ _ _ _ hn h0 h1).mono ?_;rintro e w' ⟨rfl,rfl⟩)
 ·go_ret;exact⟨CZ (by omega),(Below.refl _ _).alloc (Nat.le_refl _) _⟩
 ·go_ret;exact⟨rfl,(Below.refl _ _).alloc (Nat.le_refl _) _⟩
open Go.Deep
theorem Tryz.info145:(prog.info? 145).map (fun i=>(i.zero,i.size,i.bytes))=some (some (.agg #[.int .i64 0,.int .i64 0]),2,16):=by kernel_rfl
theorem OH(n:Nat)(hn:n<=1048576)(w:World):
 (Instr.makeSlice 40 (.int .i64 (n:Int)) (.int .i64 (n:Int))).run prog w= .ok (.slice (some ⟨w,0,none⟩) n n) (w.alloc (.cells (madeCells #[.int .i64 0,.int .i64 0] (n*2)) 145)):=by
 obtain⟨i,hi,hzz⟩:=Option.map_eq_some_iff.1 Tryz.info145;simp only[Prod.mk.injEq]at hzz;obtain⟨hz,hs,hb⟩:=hzz;have hr:=run_make (P:=prog) w 40 145 i _ underlying40 hi hz .i64 .i64 n n (by omega) (Int.le_refl _) (by rw[hb];omega) (by omega);simp only[Int.toNat_natCast,hs]at hr;exact hr
def AO(f g:Nat->Int)(j:Nat):Value:=if j%2=0 then .int .i64 (f (j/2))else .int .i64 (g (j/2))
def An(w:World)(a:Option Addr)(n:Nat)(f g:Nat->Int):Prop:=
 0<n->∃b off,a=some ⟨b,off,none⟩/\b<w.heap.size/\∀i,i<n->w.cell? ⟨b,off+i*2,none⟩=some (.int .i64 (f i))/\w.cell? ⟨b,off+i*2+1,none⟩=some (.int .i64 (g i))
theorem An.below{w w':World}{a:Option Addr}{n:Nat}{f g:Nat->Int}(h:An w a n f g)(hb:Below w w w'):An w' a n f g:=fun hn=>by
 obtain⟨b,off,rfl,hlt,hc⟩:=h hn;obtain⟨h1,_⟩:=DY hb;exact⟨b,off,rfl,Nat.lt_of_lt_of_le hlt hb.size,fun i hi=>by rw[h1 _ _ hlt,h1 _ _ hlt];exact hc i hi⟩
theorem An.row{w:World}{b n:Nat}{f g:Nat->Int}(h:w.rowIs b 145 (n*2) (AO f g)):An w (some ⟨b,0,none⟩) n f g:=fun _=>by
 refine⟨b,0,rfl,h.lt,fun i hi=>⟨?_,?_⟩⟩
 ·have:=h.cell (i:=0+i*2) (by omega);rw[this];have e1:(0+i*2)%2=0:=by omega
  have e2:(0+i*2)/2=i:=by omega
  simp only[AO,e1,e2,if_true]
 ·have:=h.cell (i:=0+i*2+1) (by omega);rw[this];have e1:¬(0+i*2+1)%2=0:=by omega
  have e2:(0+i*2+1)/2=i:=by omega
  simp only[AO,e2,if_neg e1]
theorem XB(w:World)(n:Nat):(w.alloc (.cells (madeCells #[.int .i64 0,.int .i64 0] (n*2)) 145)).rowIs w 145 (n*2) (AO (fun _=>0) (fun _=>0)):=
 ⟨_,blk_alloc_new _ _,size_madeCells _ _,fun i hi=>by
   rcases Nat.mod_two_eq_zero_or_one i with h|h<;>simp[madeCells,hi,AO,h]⟩
def upto(k:Nat)(f:Nat->Int)(i:Nat):Int:=if i<k then f i else 0
theorem Ku(f:Nat->Int):upto 0 f=fun _=>0:=by funext i;simp[upto]
theorem XW{w:World}{b n k:Nat}{f g:Nat->Int}(h:w.rowIs b 145 (n*2) (AO (upto k f) (upto k g))):
 ((w.setCell ⟨b,k*2,none⟩ (.int .i64 (f k))).setCell ⟨b,k*2+1,none⟩ (.int .i64 (g k))).rowIs b 145 (n*2) (AO (upto (k+1) f) (upto (k+1) g)):=by
 refine((h.set (k*2) _).set (k*2+1) _).congr fun j _=>?_;by_cases e1:j=k*2+1
 ·subst e1;have a1:¬(k*2+1)%2=0:=by omega
  have a2:(k*2+1)/2=k:=by omega
  simp[AO,upto,a2]
 ·by_cases e2:j=k*2
  ·subst e2;simp[AO,upto]
  ·have a1:(j/2<k+1)=(j/2<k):=(by apply propext;omega);simp[AO,upto,e1,e2,a1]
theorem Vm{w:World}{b n:Nat}{f g:Nat->Int}(h:w.rowIs b 145 (n*2) (AO (upto n f) (upto n g))):w.rowIs b 145 (n*2) (AO f g):=
 h.congr fun j hj=>by have:j/2<n:=by omega
                      simp[AO,upto,this]
theorem World.rowIs.below{w w':World}{B b n:Nat}{t:TypeId}{f:Nat->Value}(h:w.rowIs b t n f)(hb:Below B w w')(hB:b<B):w'.rowIs b t n f:=
 h.of_block (hb.block b hB)
theorem Uc(a:Option Addr)(n cap:Nat)(f g:Nat->Int)(w:World)(hn:n<=1048576)(hc:An w a n f g):
 Calls prog 51 #[.slice a n cap] w fun e w'=>e= .returned (.slice (some ⟨w,0,none⟩) n n)/\w'.rowIs w 145 (n*2) (AO f g)/\Below w w w':=by
 have hmk:=OH n hn;go_enter func51,ntmps51
 go_wp2;go_loopw [4] (fun i wr=>∃k:Nat,k<=n/\i= .int .i64 k/\wr.rowIs w 145 (n*2) (AO (upto k f) (upto k g))/\Below w w wr) (fun i _=>n-(intOf i).toNat)
 case atStart=>exact⟨0,Nat.zero_le _,rfl,by rw[Ku,Ku];exact XB w n,(Below.refl _ _).alloc (Nat.le_refl _) _⟩
 case round=>
  obtain⟨k,hk,rfl,hrow,hB⟩:=hrel;clear hmk;by_cases hlt':k<n
  ·obtain⟨b,off,rfl,hlt,hc⟩:=hc (by omega);obtain⟨h1,h2⟩:=hc k hlt';have g1:wr.cell? ⟨b,off+k*2,none⟩=some (.int .i64 (f k)):=(hB.cell (p:=⟨b,_,none⟩) hlt).trans h1;have g2:wr.cell? ⟨b,off+k*2+1,none⟩=some (.int .i64 (g k)):=(hB.cell (p:=⟨b,_,none⟩) hlt).trans h2;clear h1 h2 hc;go_wp2_with fail
   refine(Ws _ _ _).mono ?_;rintro e w1 ⟨rfl,hb1⟩;have hrow1:=World.rowIs.below hrow hb1 hrow.lt;have c1:=hrow1.cell (i:=k*2) (by omega);have c2:=hrow1.cell (i:=k*2+1) (by omega);have f1:=hrow1.frozen (k*2);have f2:=hrow1.frozen (k*2+1);clear g1 g2;go_wp2;go_roundw;case rel=>exact⟨k+1,by omega,by go_num,XW hrow1,((hB.trans (hb1.mono hB.size)).setCell (Nat.le_refl _) _).setCell (Nat.le_refl _) _⟩
   case measure=>simp[intOf];omega
  ·clear hc;go_wp2;go_ret;have e:k=n:=(by omega);subst e;exact⟨rfl,Vm hrow,hB⟩
theorem Ez(base:Int)(a:Option Addr)(n cap:Nat)(f g:Nat->Int)(w:World)(hn:n<=1048576)(hc:An w a n f g):
 Calls prog 22 #[.agg #[.int .i64 base,.slice a n cap]] w fun e w'=>∃c,e= .returned (.agg #[.int .i64 base,.slice (some ⟨c,0,none⟩) n n])/\w.heap.size<=c/\w'.rowIs c 145 (n*2) (AO f g)/\Below w w w':=by
 have hb0:=(((Below.refl _ w).alloc (Nat.le_refl _) (.cells #[.int .i64 base,.slice a n cap] 28)).alloc (by simp) (.cells #[.int .i64 0,.slice none 0 0] 42)).alloc (by simp;omega) (.cells #[.int .i64 base,.slice none 0 0] 42);have hc3:=hc.below hb0;go_enter func22,ntmps22
 go_wp2_with fail
 refine(Uc _ _ _ f g _ hn hc3).mono ?_;rintro e w1 ⟨rfl,hrow,hb1⟩;obtain⟨q1,q2⟩:=DY hb1;have hz:w.heap.size+1+1+1<=w1.heap.size:=by have:=hb1.size;simpa using this
 have hz':=hrow.lt;simp at hrow hz';clear hc hc3;go_wp2;refine bodyPost_ret (v:= .agg #[.int .i64 base,.slice (some ⟨w.heap.size+1+1+1,0,none⟩) n n]) (by simp[results,Tryz.results22,go_sem,q1]) rfl ⟨_,rfl,by omega,?_,?_⟩
 ·exact((hrow.setOther (by dsimp only;omega) _).setOther (by dsimp only;omega) _).setOther (by dsimp only;omega) _
 ·exact(((hb0.trans (hb1.mono (by simp;omega))).setCell (by simp;omega) _).setCell (by simp) _).setCell (by simp) _
theorem RZ(a a':Option Addr)(n cap cap':Nat)(f g:Nat->Int)(w:World)(hn:n<=maxLen)(h:An w a n f g)(h':An w a' n f g):
 Calls prog 68 #[.slice a n cap,.slice a' n cap'] w fun e w'=>e= .returned (.bool true)/\Below w w w':=by
 unfold maxLen at hn;go_enter func68,ntmps68
 go_wp2;go_loopw [5] (fun i wr=>∃k:Nat,k<=n/\i= .int .i64 k/\Below w w wr) (fun i _=>n-(intOf i).toNat)
 case atStart=>exact⟨0,Nat.zero_le _,rfl,Below.refl _ _⟩
 case round=>
  obtain⟨k,hk,rfl,hB⟩:=hrel;by_cases hlt':k<n
  ·obtain⟨b,off,rfl,hlt,hc⟩:=h (by omega);obtain⟨b',off',rfl,hlt2,hc'⟩:=h' (by omega);obtain⟨h1,h2⟩:=hc k hlt';obtain⟨h3,h4⟩:=hc' k hlt';have g1:wr.cell? ⟨b,off+k*2,none⟩=some (.int .i64 (f k)):=(hB.cell (p:=⟨b,_,none⟩) hlt).trans h1;have g2:wr.cell? ⟨b,off+k*2+1,none⟩=some (.int .i64 (g k)):=(hB.cell (p:=⟨b,_,none⟩) hlt).trans h2;have g3:wr.cell? ⟨b',off'+k*2,none⟩=some (.int .i64 (f k)):=(hB.cell (p:=⟨b',_,none⟩) hlt2).trans h3;have g4:wr.cell? ⟨b',off'+k*2+1,none⟩=some (.int .i64 (g k)):=(hB.cell (p:=⟨b',_,none⟩) hlt2).trans h4;clear h1 h2 hc h3 h4 hc';have i0:(0:Int)<=(k:Int):=(by omega);have i1:(k:Int)<(n:Int):=(by omega);have z1:b<wr.heap.size:=Nat.lt_of_lt_of_le hlt hB.size;have z2:b'<wr.heap.size:=Nat.lt_of_lt_of_le hlt2 hB.size;go_wp2_with fail
   go_region_held3(fun w'=>w'.cell? ⟨b,off+k*2,none⟩=some (.int .i64 (f k))/\w'.cell? ⟨b,off+k*2+1,none⟩=some (.int .i64 (g k))/\w'.cell? ⟨b',off'+k*2,none⟩=some (.int .i64 (f k))/\w'.cell? ⟨b',off'+k*2+1,none⟩=some (.int .i64 (g k))) (go_keep)
    (first|(go_at_call 123;refine(VK _ _ _ _ _).mono ?_;rintro e w1 ⟨rfl,hb1⟩;have p1:=(hb1.cell (p:=⟨b,off+k*2,none⟩) z1).trans g1;have p2:=(hb1.cell (p:=⟨b,off+k*2+1,none⟩) z1).trans g2;have p3:=(hb1.cell (p:=⟨b',off'+k*2,none⟩) z2).trans g3;have p4:=(hb1.cell (p:=⟨b',off'+k*2+1,none⟩) z2).trans g4))
   have hB1:Below w w w1:=hB.drew.trans (hb1.mono hB.size);clear g1 g2 g3 g4 p1 p2 p3 p4 h h' hb1;go_wp2;go_roundw;case rel=>exact⟨k+1,by omega,by go_num,hB1⟩
   case measure=>simp[intOf];omega
  ·clear h h';go_wp2;go_ret;exact⟨rfl,hB⟩
theorem E8(base:Int)(a a':Option Addr)(n cap cap':Nat)(f g:Nat->Int)(w:World)(hn:n<=maxLen)(h:An w a n f g)(h':An w a' n f g):
 Calls prog 29 #[.agg #[.int .i64 base,.slice a n cap],.agg #[.int .i64 base,.slice a' n cap']] w fun e w'=>e= .returned (.bool true)/\Below w w w':=by
 have hb0:=((Below.refl _ w).alloc (Nat.le_refl _) (.cells #[.int .i64 base,.slice a n cap] 42)).alloc (by simp) (.cells #[.int .i64 base,.slice a' n cap'] 42);have hc1:=h.below hb0;have hc2:=h'.below hb0;go_enter func29,ntmps29
 go_wp2_with(go_at_call 68;refine(RZ _ _ _ _ _ f g _ hn hc1 hc2).mono ?_;rintro e w1 ⟨rfl,hb1⟩)
 go_ret;exact⟨rfl,hb0.trans (hb1.mono (by simp;omega))⟩
def CL(base:Int)(f g:Nat->Int)(i:Nat):Bool:=Dv (f i) 1 9999&&Dv (g i) 0 3&& !(g i==base)&&(i==0||decide (f (i-1)<f i))
def AX(base:Int)(n:Nat)(f g:Nat->Int):Bool:=Dv base 0 3&&decide (n<=12)&&(List.range n).all (CL base f g)
theorem Nc{base:Int}{n:Nat}{f g:Nat->Int}(h:Dv base 0 3=false):AX base n f g=false:=by simp[AX,h]
theorem OT{base:Int}{n:Nat}{f g:Nat->Int}(h:12<n):AX base n f g=false:=by
 have:decide (n<=12)=false:=by simp;omega
 simp[AX,this]
theorem FF{base:Int}{n k:Nat}{f g:Nat->Int}(hk:k<n)(h:CL base f g k=false):AX base n f g=false:=by
 have:(List.range n).all (CL base f g)=false:=by
  rw[List.all_eq_false];exact⟨k,List.mem_range.2 hk,by simp[h]⟩
 simp[AX,this]
theorem Sr{base:Int}{n:Nat}{f g:Nat->Int}(hb:Dv base 0 3=true)(hn:n<=12)(h:∀i,i<n->CL base f g i=true):AX base n f g=true:=by
 have:(List.range n).all (CL base f g)=true:=by
  rw[List.all_eq_true];intro i hi;exact h i (List.mem_range.1 hi)
 simp[AX,this,hb,hn]
theorem Kw{base:Int}{n:Nat}{f g:Nat->Int}(h:AX base n f g=true):Dv base 0 3=true/\n<=12/\∀i,i<n->CL base f g i=true:=by
 simp only[AX,Bool.and_eq_true,decide_eq_true_eq,List.all_eq_true,List.mem_range]at h;exact⟨h.1.1,h.1.2,h.2⟩
theorem DL{x lo hi:Int}:Dv x lo hi=true↔lo<=x/\x<=hi:=by simp[Dv]
theorem Vn{base:Int}{f g:Nat->Int}{i:Nat}:CL base f g i=true↔(1<=f i/\f i<=9999)/\(0<=g i/\g i<=3)/\g i≠base/\(i=0∨f (i-1)<f i):=by
 simp[CL,Dv,and_assoc]
def lastOf(f:Nat->Int)(k:Nat):Int:=if k=0 then 0 else f (k-1)
theorem Gz(f:Nat->Int)(k:Nat):lastOf f (k+1)=f k:=by simp[lastOf]
theorem Rm{base:Int}{f g:Nat->Int}{k:Nat}(h:Dv (f k) 1 9999=false):CL base f g k=false:=by simp[CL,h]
theorem XL{base:Int}{f g:Nat->Int}{k:Nat}(h0:Dv (f k) 1 9999=true)(h:f k<=lastOf f k):CL base f g k=false:=by
 have h0:=DL.1 h0;by_cases e:k=0
 ·subst e;simp[lastOf]at h;omega
 ·simp[lastOf,e]at h;have:decide (f (k-1)<f k)=false:=by simp;omega
  simp[CL,e,this]
theorem RY{base:Int}{f g:Nat->Int}{k:Nat}(h:Dv (g k) 0 3=false):CL base f g k=false:=by simp[CL,h]
theorem Sx{base:Int}{f g:Nat->Int}{k:Nat}(h:(g k==base)=true):CL base f g k=false:=by simp[CL,h]
theorem Yy{base:Int}{f g:Nat->Int}{k:Nat}(h1:Dv (f k) 1 9999=true)(h2:¬f k<=lastOf f k)(h3:Dv (g k) 0 3=true)(h4:(g k==base)=false):CL base f g k=true:=by
 by_cases e:k=0
 ·subst e;simp_all[CL]
 ·simp[lastOf,e]at h2;simp[CL,h1,h3,h4,h2]
theorem Dn(base:Int)(a:Option Addr)(n cap:Nat)(f g:Nat->Int)(w:World)(hn:n<=maxLen)(hc:An w a n f g):
 Calls prog 103 #[.agg #[.int .i64 base,.slice a n cap]] w fun e w'=>e= .returned (.bool (AX base n f g))/\Below w w w':=by
 unfold maxLen at hn;by_cases hb:Dv base 0 3=true
 ·by_cases h12:12<n
  ·have h12':(12:Int)<(n:Int):=(by omega);go_enter func103,ntmps103
   go_wp2_with(go_at_call 128;refine(FC _ _).mono ?_;rintro e w' ⟨rfl,rfl⟩)
   go_ret;exact⟨Ag (OT h12).symm,(Below.refl _ _).alloc (Nat.le_refl _) _⟩
  ·have h12':¬(12:Int)<(n:Int):=(by omega);have n1:No (.cells #[.int .i64 base,.slice a n cap] 42):=⟨⟩;have hb0:=(Below.refl _ w).alloc (Nat.le_refl _) n1;have hc1:=hc.below hb0;go_enter func103,ntmps103
   go_wp2_with(go_at_call 128;refine(FC _ _).mono ?_;rintro e w' ⟨rfl,rfl⟩)
   go_loopw [3,19] (fun l i wr=>∃k:Nat,k<=n/\i= .int .i64 k/\l= .int .i64 (lastOf f k)/\(∀j,j<k->CL base f g j=true)/\Below (w.heap.size+1) (w.alloc n1) wr) (fun _ i _=>n-(intOf i).toNat)
   case atStart=>exact⟨0,Nat.zero_le _,rfl,rfl,fun j hj=>by omega,Below.refl _ _⟩
   case round=>
    obtain⟨k,hk,rfl,rfl,hall,hB⟩:=hrel;have x0:wr.cell? ⟨w,0,none⟩=some (.int .i64 base):=(hB.cell (p:=⟨w,0,none⟩) (by simp)).trans (by simp);have hB':Below w w wr:=hb0.trans (hB.mono (by omega));have zz:w.heap.size<wr.heap.size:=(by have:=hB.size;simp at this;omega);have x1:∀o,(wr.alloc o).cell? ⟨w,0,none⟩=some (.int .i64 base):=fun o=>(((Below.refl _ wr).alloc (Nat.le_refl _) o).cell (p:=⟨w,0,none⟩) zz).trans x0;by_cases hlt':k<n
    ·obtain⟨b,off,rfl,hlt,hcc⟩:=hc (by omega);obtain⟨h1,h2⟩:=hcc k hlt';have g1:wr.cell? ⟨b,off+k*2,none⟩=some (.int .i64 (f k)):=(hB'.cell (p:=⟨b,_,none⟩) hlt).trans h1;have g2:wr.cell? ⟨b,off+k*2+1,none⟩=some (.int .i64 (g k)):=(hB'.cell (p:=⟨b,_,none⟩) hlt).trans h2;clear h1 h2 hcc hc hc1 hb0;have HA:Hid (∀j,j<k->CL base f g j=true):=hall;clear hall;by_cases t1:Dv (f k) 1 9999=true
     ·go_wp2_with(first|(go_at_call 128;refine(FC _ _).mono ?_;rintro e w' ⟨rfl,rfl⟩)|(go_at_call 129;refine(He _ _).mono ?_;rintro e w' ⟨rfl,rfl⟩))
      ·go_ret;refine⟨Ag (FF hlt' (Sx ?_)).symm,hB'.alloc (by omega) _⟩;have t2:lastOf f k<f k:=(by assumption);have t3:f k<=lastOf f k∨(g k==base)=true:=(by assumption);rcases t3 with t3|t3
       ·omega
       ·exact t3
      ·have t2:lastOf f k<f k:=(by assumption);have t3:Dv (g k) 0 3=true:=(by assumption);have t4:lastOf f k<f k/\(g k==base)=false:=(by assumption);go_roundw;case rel=>
        refine⟨k+1,by omega,by go_num,by rw[Gz],fun j hj=>?_,hB.alloc (by omega) _⟩;by_cases e:j=k
        ·subst e;exact Yy t1 (by omega) t3 t4.2
        ·exact HA.out j (by omega)
       case measure=>simp[intOf];omega
      ·go_ret;have t2:¬Dv (g k) 0 3=true:=(by assumption);exact⟨Ag (FF hlt' (RY (by simpa using t2))).symm,hB'.alloc (by omega) _⟩
      ·go_ret;have t2:f k<=lastOf f k:=(by assumption);exact⟨Ag (FF hlt' (XL t1 t2)).symm,hB'.alloc (by omega) _⟩
     ·have t1':Dv (f k) 1 9999=false:=(by simpa using t1);clear t1;go_wp2_with(first|(go_at_call 128;refine(FC _ _).mono ?_;rintro e w' ⟨rfl,rfl⟩)|(go_at_call 129;refine(He _ _).mono ?_;rintro e w' ⟨rfl,rfl⟩))
      go_ret;exact⟨Ag (FF hlt' (Rm t1')).symm,hB'.alloc (by omega) _⟩
    ·have HA:Hid (∀j,j<k->CL base f g j=true):=hall;clear hall hc hc1;go_wp2;go_ret;have e:k=n:=(by omega);subst e;exact⟨Ag (Sr hb (by omega) HA).symm,hB'⟩
 ·have hb':Dv base 0 3=false:=by simpa using hb
  clear hb;go_enter func103,ntmps103
  go_wp2_with(go_at_call 128;refine(FC _ _).mono ?_;rintro e w' ⟨rfl,rfl⟩)
  go_ret;exact⟨Ag (Nc hb').symm,(Below.refl _ _).alloc (Nat.le_refl _) _⟩
theorem WM{base:Int}{f g:Nat->Int}{k:Nat}(h0:0<k)(h:f k<=f (k-1)):CL base f g k=false:=by
 have e:¬k=0:=by omega
 have:decide (f (k-1)<f k)=false:=by simp;omega
 simp[CL,e,this]
theorem Sz{base:Int}{f g:Nat->Int}{k:Nat}(h1:Dv (f k) 1 9999=true)(h3:Dv (g k) 0 3=true)(h4:(g k==base)=false)(h:k=0∨f (k-1)<f k):CL base f g k=true:=by
 rcases h with h|h<;>simp_all[CL]
theorem Gg(base:Int)(a:Option Addr)(n cap:Nat)(f g:Nat->Int)(w:World)(hn:n<=maxLen)(hc:An w a n f g):
 Calls prog 78 #[.agg #[.int .i64 base,.slice a n cap]] w fun e w'=>e= .returned (.bool (AX base n f g))/\Below w w w':=by
 unfold maxLen at hn;by_cases hb:Dv base 0 3=true
 ·by_cases h12:12<n
  ·have h12':(12:Int)<(n:Int):=(by omega);go_enter func78,ntmps78
   go_wp2_with(go_at_call 42;refine(BM _ _ _ _).mono ?_;rintro e w' ⟨rfl,rfl⟩)
   go_ret;exact⟨Ag (OT h12).symm,(Below.refl _ _).alloc (Nat.le_refl _) _⟩
  ·have h12':¬(12:Int)<(n:Int):=(by omega);have n1:No (.cells #[.int .i64 base,.slice a n cap] 42):=⟨⟩;have hb0:=(Below.refl _ w).alloc (Nat.le_refl _) n1;have hc1:=hc.below hb0;go_enter func78,ntmps78
   go_wp2_with(go_at_call 42;refine(BM _ _ _ _).mono ?_;rintro e w' ⟨rfl,rfl⟩)
   go_loopw [3] (fun i wr=>∃k:Nat,k<=n/\i= .int .i64 k/\(∀j,j<k->CL base f g j=true)/\Below (w.heap.size+1) (w.alloc n1) wr) (fun i _=>n-(intOf i).toNat)
   case atStart=>exact⟨0,Nat.zero_le _,rfl,fun j hj=>by omega,Below.refl _ _⟩
   case round=>
    obtain⟨k,hk,rfl,hall,hB⟩:=hrel;have x0:wr.cell? ⟨w,0,none⟩=some (.int .i64 base):=(hB.cell (p:=⟨w,0,none⟩) (by simp)).trans (by simp);have y0:wr.cell? ⟨w,1,none⟩=some (.slice a n cap):=(hB.cell (p:=⟨w,1,none⟩) (by simp)).trans (by simp);have hB':Below w w wr:=hb0.trans (hB.mono (by omega));have zz:w.heap.size<wr.heap.size:=(by have:=hB.size;simp at this;omega);by_cases hlt':k<n
    ·obtain⟨b,off,rfl,hlt,hcc⟩:=hc (by omega);obtain⟨h1,h2⟩:=hcc k hlt';have zb:b<wr.heap.size:=(by omega);have g1:wr.cell? ⟨b,off+k*2,none⟩=some (.int .i64 (f k)):=(hB'.cell (p:=⟨b,_,none⟩) hlt).trans h1;have g2:wr.cell? ⟨b,off+k*2+1,none⟩=some (.int .i64 (g k)):=(hB'.cell (p:=⟨b,_,none⟩) hlt).trans h2;have x1:∀o,(wr.alloc o).cell? ⟨w,0,none⟩=some (.int .i64 base):=fun o=>(((Below.refl _ wr).alloc (Nat.le_refl _) o).cell (p:=⟨w,0,none⟩) zz).trans x0;have y1:∀o,(wr.alloc o).cell? ⟨w,1,none⟩=some (.slice (some ⟨b,off,none⟩) n cap):=fun o=>(((Below.refl _ wr).alloc (Nat.le_refl _) o).cell (p:=⟨w,1,none⟩) zz).trans y0;have i0:(0:Int)<=(k:Int):=(by omega);have i1:(k:Int)<(n:Int):=(by omega);have HA:Hid (∀j,j<k->CL base f g j=true):=hall;clear h1 h2 hc hc1 hb0 hall;by_cases t1:Dv (f k) 1 9999=true
     ·by_cases t3:Dv (g k) 0 3=true
      ·by_cases t4:(g k==base)=true
       ·have t4':g k=base:=(by simpa using t4);clear t4;go_wp2_with fail
        go_quiet((go_at_call 42;exact Calls.quiet_of_same (BM _ _ _ _)))
        go_wp2;go_ret;exact⟨Ag (FF hlt' (Sx (by simpa using t4'))).symm,below_drewN (hB'.alloc (by omega) _) _⟩
       ·have t4':(g k==base)=false:=(by simpa using t4);clear t4;by_cases k0:k=0
        ·have d0:decide ((0:Int)<(k:Int))=false:=(by simp;omega);have d1:decide (0<k)=false:=(by simp;omega);have K0:Hid (k=0):=k0;clear k0;go_wp2_with fail
         go_quiet((go_at_call 42;exact Calls.quiet_of_same (BM _ _ _ _)))
         go_wp2;go_roundw;case rel=>
          refine⟨k+1,by omega,by go_num,fun j hj=>?_,below_drewN (hB.alloc (by omega) _) _⟩;by_cases e:j=k
          ·subst e;exact Sz t1 t3 t4' (.inl K0)
          ·exact HA.out j (by omega)
         case measure=>simp[intOf];omega
        ·obtain⟨m,rfl⟩:∃m,k=m+1:=⟨k-1,by omega⟩;have d0:(0:Int)<((m+1:Nat):Int):=(by omega);have q1:∀o,(wr.alloc o).cell? ⟨b,off+m*2,none⟩=some (.int .i64 (f m)):=fun o=>(((Below.refl _ wr).alloc (Nat.le_refl _) o).cell (p:=⟨b,off+m*2,none⟩) zb).trans ((hB'.cell (p:=⟨b,_,none⟩) hlt).trans (hcc m (by omega)).1);have j1:((m:Nat):Int)<(n:Int):=(by omega);clear hcc;by_cases t5:f (m+1)<=f m
         ·have d5:decide (f (m+1)<=f m)=true:=(by simpa using t5);go_wp2_with fail
          go_quiet((go_at_call 42;exact Calls.quiet_of_same (BM _ _ _ _)))
          go_wp2;go_ret;exact⟨Ag (FF hlt' (WM (by omega) t5)).symm,below_drewN (hB'.alloc (by omega) _) _⟩
         ·have d5:decide (f (m+1)<=f m)=false:=(by simpa using t5);go_wp2_with fail
          go_quiet((go_at_call 42;exact Calls.quiet_of_same (BM _ _ _ _)))
          go_wp2;go_roundw;case rel=>
           refine⟨m+1+1,by omega,by go_num,fun j hj=>?_,below_drewN (hB.alloc (by omega) _) _⟩;by_cases e:j=(m+1)
           ·subst e;exact Sz t1 t3 t4' (.inr (by simpa using t5))
           ·exact HA.out j (by omega)
          case measure=>simp[intOf];omega
      ·have t3':Dv (g k) 0 3=false:=(by simpa using t3);clear t3;go_wp2_with fail
       go_quiet((go_at_call 42;exact Calls.quiet_of_same (BM _ _ _ _)))
       go_wp2;go_ret;exact⟨Ag (FF hlt' (RY t3')).symm,below_drewN (hB'.alloc (by omega) _) _⟩
     ·have t1':Dv (f k) 1 9999=false:=(by simpa using t1);clear t1;go_wp2_with fail
      go_quiet((go_at_call 42;exact Calls.quiet_of_same (BM _ _ _ _)))
      go_wp2;go_ret;exact⟨Ag (FF hlt' (Rm t1')).symm,below_drewN (hB'.alloc (by omega) _) _⟩
    ·have HA:Hid (∀j,j<k->CL base f g j=true):=hall;clear hall hc hc1;go_wp2;go_ret;have e:k=n:=(by omega);subst e;exact⟨Ag (Sr hb (by omega) HA).symm,hB'⟩
 ·have hb':Dv base 0 3=false:=by simpa using hb
  clear hb;go_enter func78,ntmps78
  go_wp2_with(go_at_call 42;refine(BM _ _ _ _).mono ?_;rintro e w' ⟨rfl,rfl⟩)
  go_ret;exact⟨Ag (Nc hb').symm,(Below.refl _ _).alloc (Nat.le_refl _) _⟩
def AJ(w:World)(a:Option Addr)(n:Nat)(h:Nat->Int):Prop:=
 0<n->∃b off,a=some ⟨b,off,none⟩/\b<w.heap.size/\∀i,i<n->w.cell? ⟨b,off+i,none⟩=some (.int .i64 (h i))
theorem AJ.below{w w':World}{a:Option Addr}{n:Nat}{h:Nat->Int}(hc:AJ w a n h)(hb:Below w w w'):AJ w' a n h:=fun hn=>by
 obtain⟨b,off,rfl,hlt,hc⟩:=hc hn;obtain⟨h1,_⟩:=DY hb;exact⟨b,off,rfl,Nat.lt_of_lt_of_le hlt hb.size,fun i hi=>by rw[h1 _ _ hlt];exact hc i hi⟩
theorem AJ.row{w:World}{b n:Nat}{t:TypeId}{h:Nat->Int}(hr:w.rowIs b t n (fun i=> .int .i64 (h i))):AJ w (some ⟨b,0,none⟩) n h:=fun _=>
 ⟨b,0,rfl,hr.lt,fun i hi=>by rw[Nat.zero_add];exact hr.cell hi⟩
theorem Tryz.info2:(prog.info? 2).map (fun i=>(i.zero,i.size,i.bytes))=some (some (.int .i64 0),1,8):=by kernel_rfl
theorem JL(a:Option Addr)(n cap:Nat)(left:Int)(w:World)(hn:n<=maxLen)(h0:0<=left)(h1:left<=1048576):
 Calls prog 76 #[.slice a n cap,.int .i64 left] w fun e w'=>e= .returned (.int .i64 (Gc n left))/\w'=w:=by
 unfold maxLen at hn;go_enter func76,ntmps76
 go_wp2
 ·go_ret;exact⟨CZ (by unfold Gc;rw[if_pos (by omega)]),rfl⟩
 ·go_ret;exact⟨CZ (by unfold Gc;rw[if_neg (by omega)]),rfl⟩
theorem QC{w:World}{b n k:Nat}{h:Nat->Int}(hr:w.rowIs b 2 n (fun i=> .int .i64 (upto k h i))):
 (w.setCell ⟨b,k,none⟩ (.int .i64 (h k))).rowIs b 2 n (fun i=> .int .i64 (upto (k+1) h i)):=by
 refine(hr.set k _).congr fun j _=>?_;by_cases e:j=k
 ·subst e;simp[upto]
 ·have a1:(j<k+1)=(j<k):=by apply propext;omega
  simp[upto,e,a1]
theorem NM{w:World}{b n:Nat}{h:Nat->Int}(hr:w.rowIs b 2 n (fun i=> .int .i64 (upto n h i))):w.rowIs b 2 n (fun i=> .int .i64 (h i)):=
 hr.congr fun j hj=>by simp[upto,hj]
theorem Jw(a:Option Addr)(n cap:Nat)(h:Nat->Int)(w:World)(hn:n<=1048576)(hc:AJ w a n h):
 Calls prog 95 #[.slice a n cap] w fun e w'=>e= .returned (.slice (some ⟨w,0,none⟩) n n)/\w'.rowIs w 2 n (fun i=> .int .i64 (h i))/\Below w w w':=by
 have hmk:=run_make_row' (P:=prog) 76 2 _ 8 underlying76 Tryz.info2 rfl .i64 .i64 n (by omega) (by omega);go_enter func95,ntmps95
 go_wp2;go_loopw [4] (fun i wr=>∃k:Nat,k<=n/\i= .int .i64 k/\wr.rowIs w 2 n (fun j=> .int .i64 (upto k h j))/\Below w w wr) (fun i _=>n-(intOf i).toNat)
 case atStart=>exact⟨0,Nat.zero_le _,rfl,by simpa[Ku]using World.rowIs_made w (.int .i64 0) n 2,(Below.refl _ _).alloc (Nat.le_refl _) _⟩
 case round=>
  obtain⟨k,hk,rfl,hrow,hB⟩:=hrel;clear hmk;by_cases hlt':k<n
  ·obtain⟨b,off,rfl,hlt,hc⟩:=hc (by omega);have g1:wr.cell? ⟨b,off+k,none⟩=some (.int .i64 (h k)):=(hB.cell (p:=⟨b,_,none⟩) hlt).trans (hc k hlt');have c1:=hrow.cell (i:=k) (by omega);have f1:=hrow.frozen k;clear hc;go_wp2;go_roundw;case rel=>exact⟨k+1,by omega,by go_num,QC hrow,hB.setCell (Nat.le_refl _) _⟩
   case measure=>simp[intOf];omega
  ·clear hc;go_wp2;go_ret;have e:k=n:=(by omega);subst e;exact⟨rfl,NM hrow,hB⟩
theorem I4(a a':Option Addr)(n cap cap':Nat)(h:Nat->Int)(w:World)(hn:n<=maxLen)(hc:AJ w a n h)(hc':AJ w a' n h):
 Calls prog 121 #[.slice a n cap,.slice a' n cap'] w fun e w'=>e= .returned (.bool true)/\Below w w w':=by
 unfold maxLen at hn;go_enter func121,ntmps121
 go_wp2;go_loopw [5] (fun i wr=>∃k:Nat,k<=n/\i= .int .i64 k/\Below w w wr) (fun i _=>n-(intOf i).toNat)
 case atStart=>exact⟨0,Nat.zero_le _,rfl,Below.refl _ _⟩
 case round=>
  obtain⟨k,hk,rfl,hB⟩:=hrel;by_cases hlt':k<n
  ·obtain⟨b,off,rfl,hlt,hc⟩:=hc (by omega);obtain⟨b',off',rfl,hlt2,hc'⟩:=hc' (by omega);have g1:wr.cell? ⟨b,off+k,none⟩=some (.int .i64 (h k)):=(hB.cell (p:=⟨b,_,none⟩) hlt).trans (hc k hlt');have g2:wr.cell? ⟨b',off'+k,none⟩=some (.int .i64 (h k)):=(hB.cell (p:=⟨b',_,none⟩) hlt2).trans (hc' k hlt');clear hc hc';have i0:(0:Int)<=(k:Int):=(by omega);have i1:(k:Int)<(n:Int):=(by omega);go_wp2_with fail
   go_quiet(fail)
   go_wp2;go_roundw;case rel=>exact⟨k+1,by omega,by go_num,below_drewN hB _⟩
   case measure=>simp[intOf];omega
  ·clear hc hc';go_wp2;go_ret;exact⟨rfl,hB⟩
end Go.Proofs.YtmikapeeflcbfaaGreatDoor
