import Derived.Deep.RegionHeld3
import Derived.Test.YtdaccbddcjlkpaaGreatDoorProg
import Derived.ProofKit
import Derived.Shelf.Abstract
import Derived.WalkKit
import Derived.WalkSpells
import Derived.WalkLawsBesides
import Derived.Below
import Derived.Deep.OwnRows
import Derived.Deep.QuietTactic
import Derived.BigQuiet
import Derived.Lib.ConvBytes
set_option maxRecDepth 100000
set_option maxHeartbeats 4000000
namespace Go.Proofs.YtdaccbddcjlkpaaGreatDoor
open Go
open Go.Region renaming ready→jk,binds→kD,noSelect→xU,wanted→jW
open Go renaming World→qM
section
variable {P:Program}{ops:Array Oper}{Q:Exit->Act->qM->Prop}{md:Region.Mode}{S:qM->Prop}{m:Nat}
def Cs(P:Program)(md:Region.Mode)(ops:Array Oper)(Q:Exit->Act->qM->Prop)(S:qM->Prop)(m:Nat):Nat->Array Bool->Act->qM->Prop
 |0,listed,a,w=>jk md ops listed=[]/\Q .normal a w
 |fuel+1,listed,a,w=>
  (jk md ops listed=[]->Q .normal a w)/\
  ∀i∈jk md ops listed,wpOp P ops Q i (fun a' w'=>((listed.setIfInBounds i true).getD m false=false->S w')/\Cs P md ops Q S m fuel (listed.setIfInBounds i true) a' w') a w
theorem Ph:∀(fuel:Nat) (listed:Array Bool) (a:Act) (w:qM),Cs P md ops Q S m fuel listed a w->wpAny P md ops Q fuel listed a w
 |0,_,_,_,h=>h
 |fuel+1,_,_,_,h=>⟨h.1,fun i hi=>wpOp_mono (fun a' w' h'=>Ph fuel _ a' w' h'.2) (h.2 i hi)⟩
def waits(md:Region.Mode)(ops:Array Oper)(m i:Nat):Bool:=match ops[m]? with
 |some o=>o.after.any fun e=>kD md e&&(e.on==i)
 |none=>false
theorem Sl{i:Nat}{oi:Oper}{v:Value}(hi:ops[i]? =some oi)(hsel:∀(j:Nat) (o:Oper) cs b,ops[j]? =some o->o.op≠ .select cs b)
 (hQ:∀c a w,Q (.panic c) (a.put oi.dst v) w->Q (.panic c) a w)(hwait:(waits md ops m i||decide (ops.size<=m))=true)(him:i≠m):
 ∀(fuel:Nat) (listed:Array Bool) (a:Act) (w:qM),
  (∀j oj,ops[j]? =some oj->j≠i->listed.getD j true=false->(∀e∈oj.after,kD md e=true->e.on≠i)->oi.apart ops oj=true)->
  i∈jk md ops listed->YieldsIf P ops S oi v a->S w->listed.getD m false=false->
  Cs P md ops Q S m fuel (listed.setIfInBounds i true) (a.put oi.dst v) w->Cs P md ops Q S m (fuel+1) listed a w:=by
 intro fuel;induction fuel with
 |zero=>
  intro listed a w _ hr hy hS _ H;refine⟨fun h=>(by rw[h]at hr;cases hr),fun j hj=>?_⟩;by_cases hji:j=i
  ·subst hji;exact hy.wpOp hi hS ⟨fun _=>hS,H⟩
  ·have:=ready_mono hj hji;rw[H.1]at this;cases this
 |succ fuel ih=>
  intro listed a w hfree hr hy hS hm H;refine⟨fun h=>(by rw[h]at hr;cases hr),fun j hj=>?_⟩;by_cases hji:j=i
  ·subst hji;exact hy.wpOp hi hS ⟨fun _=>hS,H⟩
  ·have h1:=H.2 j (ready_mono hj hji);obtain⟨hjun,oj,hoj,hall⟩:=mem_ready.1 hj;have hnot:∀e∈oj.after,kD md e=true->e.on≠i:=fun e he hb heq=>by
    have h1:=hall e he hb;have h0:=(mem_ready.1 hr).1;rw[heq]at h1;rcases Nat.lt_or_ge i listed.size with h'|h'
    ·simp[h']at h0 h1;rw[h0]at h1;cases h1
    ·simp[Array.getElem?_eq_none h']at h1
   have hjm:j≠m:=fun e=>by
    subst e;simp only[Bool.or_eq_true,decide_eq_true_eq]at hwait;rcases hwait with hwait|hwait;rotate_left
    ·have:=(Array.getElem?_eq_some_iff.1 hoj).1;omega
    unfold waits at hwait;rw[hoj]at hwait;simp only[Array.any_eq_true]at hwait;obtain⟨x,hx,hb⟩:=hwait;simp only[Bool.and_eq_true,beq_iff_eq]at hb;exact hnot _ (Array.getElem_mem hx) hb.1 hb.2
   have h2:=wpOp_putIf hoj (hfree j oj hoj hji hjun hnot) (fun cs b=>hsel i oi cs b hi) (fun cs b=>hsel j oj cs b hoj) hQ hy h1;have hfree':∀k ok,ops[k]? =some ok->k≠i->(listed.setIfInBounds j true).getD k true=false->
    (∀e∈ok.after,kD md e=true->e.on≠i)->oi.apart ops ok=true:=fun k ok hk hki hun hno=>by
    refine hfree k ok hk hki ?_ hno;by_cases hjk:j=k
    ·subst hjk;exact hjun
    ·rw[getD_set_ne true hjk]at hun;exact hun
   have hm2:(listed.setIfInBounds j true).getD m false=false:=(by rw[getD_set_ne false hjm];exact hm);have hm3:((listed.setIfInBounds i true).setIfInBounds j true).getD m false=false:=(by rw[getD_set_ne false hjm,getD_set_ne false him];exact hm);refine wpOp_mono (fun a' w' h3=>⟨fun _=>h3.2.1 hm3,ih (listed.setIfInBounds j true) a' w' hfree' (ready_mono hr (Ne.symm hji)) h3.1 (h3.2.1 hm3) hm2 ?_⟩) h2;rw[Array.setIfInBounds_comm _ _ hji];exact h3.2.2
theorem Va{i:Nat}{oi:Oper}{v:Value}{fuel:Nat}{listed:Array Bool}{a:Act}{w:qM}(hi:ops[i]? =some oi)
 (hs:xU ops=true)(hf:Region.free md ops listed i=true)(hr:(jk md ops listed).contains i=true)
 (hwait:(waits md ops m i||decide (ops.size<=m))=true)(him:(i==m)=false)(hm:listed.getD m false=false)
 (hQ:∀c a w,Q (.panic c) (a.put oi.dst v) w->Q (.panic c) a w)(hy:YieldsIf P ops S oi v a)(hS:S w)
 (h:Cs P md ops Q S m fuel (listed.setIfInBounds i true) (a.put oi.dst v) w):Cs P md ops Q S m (fuel+1) listed a w:=
 Sl hi (Region.noSelect_spec hs) hQ hwait (by simpa using him) fuel listed a w (Region.free_spec hi hf) (by simpa using hr) hy hS hm h
theorem CL{i d:Nat}{oi:Oper}(v:Value){fuel:Nat}{listed:Array Bool}{a:Act}{w:qM}(hi:ops[i]? =some oi)(hd:oi.dst=some d)
 (hs:xU ops=true)(hf:Region.free md ops listed i=true)(hr:(jk md ops listed).contains i=true)
 (hwait:(waits md ops m i||decide (ops.size<=m))=true)(him:(i==m)=false)(hm:listed.getD m false=false)
 (hQ:∀c a w,Q (.panic c) (a.put (some d) v) w->Q (.panic c) a w)(hy:YieldsIf P ops S oi v a)(hS:S w)
 (h:Cs P md ops Q S m fuel (listed.setIfInBounds i true) (a.put (some d) v) w):Cs P md ops Q S m (fuel+1) listed a w:=
 Va hi hs hf hr hwait him hm (by rw[hd];exact hQ) hy hS (by rw[hd];exact h)
theorem Ui{i d:Nat}{oi:Oper}{fuel:Nat}{listed:Array Bool}{a:Act}{w:qM}(hi:ops[i]? =some oi)(hd:oi.dst=some d)
 (hs:xU ops=true)(hf:Region.free md ops listed i=true)(hr:(jk md ops listed).contains i=true)
 (hwait:(waits md ops m i||decide (ops.size<=m))=true)(him:(i==m)=false)(hm:listed.getD m false=false)
 (hQ:∀c a w,Q (.panic c) (a.put (some d) undef) w->Q (.panic c) a w)(hun:jW oi (yielded ops a.tmps)=false)(hS:S w)
 (h:Cs P md ops Q S m fuel (listed.setIfInBounds i true) (a.put (some d) undef) w):Cs P md ops Q S m (fuel+1) listed a w:=
 CL undef hi hd hs hf hr hwait him hm hQ (Or.inr ⟨hun,rfl⟩) hS h
theorem Ac{i:Nat}{o:Oper}{fuel:Nat}{listed:Array Bool}{a:Act}{w:qM}(hr:jk md ops listed=[i])(ho:ops[i]? =some o)
 (h:∀K':Act->qM->Prop,Shut (∀a w,((listed.setIfInBounds i true).getD m false=false->S w)->Cs P md ops Q S m fuel (listed.setIfInBounds i true) a w->K' a w)->if jW o (yielded ops a.tmps)=true then Oper.wp P o a w K' Q else K' (a.put o.dst undef) w):
 Cs P md ops Q S m (fuel+1) listed a w:=
 ⟨fun h0=>(by rw[hr]at h0;cases h0),fun j hj=>by
   rw[hr]at hj;obtain rfl:=List.mem_singleton.1 hj;exact wpOp_step ho (fun K' hK=>h K' (fun a w hS hW=>hK a w ⟨hS,hW⟩))⟩
theorem oO(i:Nat){o:Oper}{fuel:Nat}{listed:Array Bool}{a a1:Act}{w w1:qM}(h:Cs P md ops Q S m fuel (listed.setIfInBounds i true) a1 w1)(hS:(listed.setIfInBounds i true).getD m false=false->S w1:=by exact fun h=>absurd h (by decide))(hr:jk md ops listed=[i]:=by kernel_rfl)(ho:ops[i]? =some o:=by rfl)(hx:∀K:Act->qM->Prop,K a1 w1->if jW o (yielded ops a.tmps)=true then Oper.wp P o a w K Q else K (a.put o.dst undef) w:=by intro K hK;go_simp;exact hK):Cs P md ops Q S m (fuel+1) listed a w:=Ac hr ho (fun K hK=>hx K (hK.out _ _ hS h))
theorem Ai{listed:Array Bool}{a:Act}{w:qM}(hr:jk md ops listed=[])(h:Q .normal a w):
 ∀fuel,Cs P md ops Q S m fuel listed a w
 |0=>⟨hr,h⟩
 |_+1=>⟨fun _=>h,by rw[hr];simp⟩
theorem Am{id:Nat}{a:Act}{w:qM}(m:Nat)(S:qM->Prop)(hm:P.follows .mixedOrders=true)
 (h:Cs P .any ops Q S m ops.size (Array.replicate ops.size false) a w.drew):(Code.region id ops true).wp P Q a w:=
 wp_region_any hm (Ph _ _ _ _ h)
end
open Go.Proofs.Tryz
open _root_.List renaming map_toArray→xZ,map_cons→xG,map_nil→xB
theorem An{ops:Array Oper}{o:Oper}{a:Act}{w:qM}{K:Act->qM->Prop}{Q:Exit->Act->qM->Prop}{E:Prop}(hw:jW o (yielded ops a.tmps)=true)(f:Nat)(x:Operand)(ats:Array TypeId)
 (ho:o.op= .call {callee:= .value (.func f),args:=#[x],argTypes:=ats})(eg:∀args w,(callFunc f args).run prog w= .ok (.enter f args) w)(v0:Value)(hv:a.eval x=v0)
 (d:Option Nat)(hd:o.dst=d)(R:Value->qM->Prop)(hc:Calls prog f #[v0] w fun e w'=>∃v,e= .returned v/\R v w')(h:∀v w',R v w'->K (a.put d v) w'):
 if jW o (yielded ops a.tmps)=true then Oper.wp prog o a w K Q else E:=by
 rw[if_pos hw];have e:(execOp a.eval o).run prog w= .ok (.enter f #[v0]) w:=by
  unfold execOp;simp only[ho,resolve,invoke,Sem.run_bind,xZ,xG,xB,hv];simp[go_sem,eg,Act.eval]
 unfold Oper.wp;rw[e,Oper.upon_enter];exact hc.mono fun e w' ⟨v,he,hr⟩=>by subst he;rw[hd];exact h v w' hr
theorem Ay{ops:Array Oper}{o:Oper}{a:Act}{w:qM}{K:Act->qM->Prop}{Q:Exit->Act->qM->Prop}{E:Prop}(hw:jW o (yielded ops a.tmps)=true)(f:Nat)(x y:Operand)(ats:Array TypeId)
 (ho:o.op= .call {callee:= .value (.func f),args:=#[x,y],argTypes:=ats})(eg:∀args w,(callFunc f args).run prog w= .ok (.enter f args) w)(v0 v1:Value)(hv:a.eval x=v0)(hv1:a.eval y=v1)
 (d:Option Nat)(hd:o.dst=d)(R:Value->qM->Prop)(hc:Calls prog f #[v0,v1] w fun e w'=>∃v,e= .returned v/\R v w')(h:∀v w',R v w'->K (a.put d v) w'):
 if jW o (yielded ops a.tmps)=true then Oper.wp prog o a w K Q else E:=by
 rw[if_pos hw];have e:(execOp a.eval o).run prog w= .ok (.enter f #[v0,v1]) w:=by
  unfold execOp;simp only[ho,resolve,invoke,Sem.run_bind,xZ,xG,xB,hv,hv1];simp[go_sem,eg,Act.eval]
 unfold Oper.wp;rw[e,Oper.upon_enter];exact hc.mono fun e w' ⟨v,he,hr⟩=>by subst he;rw[hd];exact h v w' hr
theorem Dq{ops:Array Oper}{o:Oper}{a:Act}{w:qM}{K:Act->qM->Prop}{Q:Exit->Act->qM->Prop}{E:Prop}(hw:jW o (yielded ops a.tmps)=true)(f:Nat)(x y z:Operand)(ats:Array TypeId)
 (ho:o.op= .call {callee:= .value (.func f),args:=#[x,y,z],argTypes:=ats})(eg:∀args w,(callFunc f args).run prog w= .ok (.enter f args) w)(v0 v1 v2:Value)(hv:a.eval x=v0)(hv1:a.eval y=v1)(hv2:a.eval z=v2)
 (d:Option Nat)(hd:o.dst=d)(R:Value->qM->Prop)(hc:Calls prog f #[v0,v1,v2] w fun e w'=>∃v,e= .returned v/\R v w')(h:∀v w',R v w'->K (a.put d v) w'):
 if jW o (yielded ops a.tmps)=true then Oper.wp prog o a w K Q else E:=by
 rw[if_pos hw];have e:(execOp a.eval o).run prog w= .ok (.enter f #[v0,v1,v2]) w:=by
  unfold execOp;simp only[ho,resolve,invoke,Sem.run_bind,xZ,xG,xB,hv,hv1,hv2];simp[go_sem,eg,Act.eval]
 unfold Oper.wp;rw[e,Oper.upon_enter];exact hc.mono fun e w' ⟨v,he,hr⟩=>by subst he;rw[hd];exact h v w' hr
open Go.RowKit
open _root_.Bool renaming and_eq_true→qz,not_eq_true'→zQ
theorem ap(l:List Value)(ds:List Deferred)(d:Nat)(v:Value):Act.put ⟨l.toArray,ds⟩ (some d) v=⟨(l.set d v).toArray,ds⟩:=by
 simp only[Act.put,List.setIfInBounds_toArray]
def Wv(md:Region.Mode)(ops:Array Oper)(m:Nat)(listed:Array Bool)(i:Nat):Bool:=
 Region.noSelect ops&&Region.free md ops listed i&&(Region.ready md ops listed).contains i&&(waits md ops m i||decide (ops.size<=m))&& !(i==m)&& !listed.getD m false
section
variable {P:Program}{md:Region.Mode}{ops:Array Oper}{Q:Exit->Act->World->Prop}{S:World->Prop}{m:Nat}
theorem tk(i d:Nat){oi:Oper}(v:Value){fuel:Nat}{listed:Array Bool}{a:Act}{w:World}(hi:ops[i]? =some oi)(hd:oi.dst=some d)(hk:Wv md ops m listed i=true)
 (hw:jW oi (yielded ops a.tmps)=true)(hy:∀W,S W->(execOp a.eval oi).run P W= .ok (.value v) W)(hS:S w)
 (h:Cs P md ops Q S m fuel (listed.setIfInBounds i true) (a.put (some d) v) w)(hQ:∀c a w,Q (.panic c) (a.put (some d) v) w->Q (.panic c) a w:=by exact fun _ _ _=>id):Cs P md ops Q S m (fuel+1) listed a w:=by
 unfold Wv at hk;simp only[qz,zQ]at hk;obtain⟨⟨⟨⟨⟨h1,h2⟩,h3⟩,h4⟩,h5⟩,h6⟩:=hk;exact CL v hi hd h1 h2 h3 h4 h5 h6 hQ (Or.inl ⟨hw,hy⟩) hS h
theorem sk(i d:Nat){oi:Oper}{fuel:Nat}{listed:Array Bool}{a:Act}{w:World}(hi:ops[i]? =some oi)(hd:oi.dst=some d)(hk:Wv md ops m listed i=true)
 (hun:jW oi (yielded ops a.tmps)=false)(hS:S w)
 (h:Cs P md ops Q S m fuel (listed.setIfInBounds i true) (a.put (some d) undef) w)(hQ:∀c a w,Q (.panic c) (a.put (some d) undef) w->Q (.panic c) a w:=by exact fun _ _ _=>id):Cs P md ops Q S m (fuel+1) listed a w:=by
 unfold Wv at hk;simp only[qz,zQ]at hk;obtain⟨⟨⟨⟨⟨h1,h2⟩,h3⟩,h4⟩,h5⟩,h6⟩:=hk;exact Ui hi hd h1 h2 h3 h4 h5 h6 hQ hun hS h
theorem tq(i d:Nat){oi:Oper}(v:Value){fuel:Nat}{listed:Array Bool}{a:Act}{w:World}(hS:S w)
 (h:Cs P md ops Q S m fuel (listed.setIfInBounds i true) (a.put (some d) v) w)
 (hi:ops[i]? =some oi:=by rfl)(hd:oi.dst=some d:=by rfl)(hk:Wv md ops m listed i=true:=by kernel_rfl)
 (hw:jW oi (yielded ops a.tmps)=true:=by rfl)(hy:∀W,S W->(execOp a.eval oi).run P W= .ok (.value v) W:=by intro W h;go_simp)
 (hQ:∀c a w,Q (.panic c) (a.put (some d) v) w->Q (.panic c) a w:=by exact fun _ _ _=>id):Cs P md ops Q S m (fuel+1) listed a w:=
 tk i d v hi hd hk hw hy hS h hQ
theorem tr(i d:Nat){oi:Oper}(v:Value){fuel:Nat}{listed:Array Bool}{a a':Act}{w:World}(hS:S w)
 (h:Cs P md ops Q S m fuel (listed.setIfInBounds i true) a' w)
 (hi:ops[i]? =some oi:=by rfl)(hd:oi.dst=some d:=by rfl)(hk:Wv md ops m listed i=true:=by kernel_rfl)
 (hw:jW oi (yielded ops a.tmps)=true:=by rfl)(hy:∀W,S W->(execOp a.eval oi).run P W= .ok (.value v) W:=by intro W h;go_simp)
 (ha:a.put (some d) v=a':=by simp only[ap,List.set];exact rfl)
 (hQ:∀c a w,Q (.panic c) (a.put (some d) v) w->Q (.panic c) a w:=by exact fun _ _ _=>id):Cs P md ops Q S m (fuel+1) listed a w:=
 tk i d v hi hd hk hw hy hS (by rw[ha];exact h) hQ
def YQ(md:Region.Mode)(ops:Array Oper)(m:Nat):List (Nat×Nat)->Array Bool->Array Value->Bool
 |[],_,_=>true
 |(i,d)::l,listed,t=>(match ops[i]? with
  |some oi=>Wv md ops m listed i&&decide (oi.dst=some d)&& !jW oi (yielded ops t)
  |none=>false)&&YQ md ops m l (listed.setIfInBounds i true) (t.setIfInBounds d undef)
def cY:List (Nat×Nat)->Array Bool->Array Bool
 |[],s=>s
 |(i,_)::l,s=>cY l (s.setIfInBounds i true)
def Fh:List (Nat×Nat)->Act->Act
 |[],a=>a
 |(_,d)::l,a=>Fh l (a.put (some d) undef)
theorem Qx(n:Nat)(l:List (Nat×Nat)){fuel:Nat}{listed:Array Bool}{a:Act}{w:World}(hn:l.length=n)(hk:YQ md ops m l listed a.tmps=true)(hS:S w)
 (h:Cs P md ops Q S m fuel (cY l listed) (Fh l a) w)(hQ:∀c t t' ds w,Q (.panic c) ⟨t',ds⟩ w->Q (.panic c) ⟨t,ds⟩ w:=by exact fun _ _ _ _ _=>id):Cs P md ops Q S m (fuel+n) listed a w:=by
 subst hn;induction l generalizing listed a with
 |nil=>exact h
 |cons x l ih=>
  obtain⟨i,d⟩:=x;simp only[YQ,qz]at hk;obtain⟨h1,h2⟩:=hk;cases e:ops[i]? with
  |none=>rw[e]at h1;cases h1
  |some oi=>
   rw[e]at h1;simp only[qz,decide_eq_true_eq,zQ]at h1;refine sk i d e h1.1.2 h1.1.1 h1.2 hS (ih ?_ h) (fun c a w=>hQ c _ _ _ w);exact h2
end
theorem kR{p:Prop}(h:p:=by kernel_rfl):p:=h
theorem qQ{p:Prop}(h:p:=by omega):p:=h
theorem qJ{p:Prop}(h:p:=by dsimp only;omega):p:=h
theorem qK{p:Prop}(h:p:=by rfl):p:=h
theorem qX{p:Prop}(h:p:=by decide):p:=h
theorem sO{p:Prop}(h:p:=by simp;omega):p:=h
theorem sI{p:Prop}(h:p:=by simp):p:=h
theorem qZ{p:Prop}(h:p:=by first|rfl|simp):p:=h
theorem nA{p q:Prop}(h:¬p:=by decide):p->q:=fun x=>absurd x h
open Go.Ending renaming returned→rT
open _root_.Nat renaming le_refl→jP
variable {x lo hi:Int}
instance:Coe qM Nat:=⟨fun w=>w.heap.size⟩
instance:Coe Int Value:=⟨.int .i64⟩
structure Nw(x:qM):Type
instance:Coe Nat (Option Addr):=⟨fun b=>some ⟨b,0,none⟩⟩
theorem nr{n:Nat}:n<=n:=jP _
theorem Bg(w:qM)(o:Obj):Below w w (w.alloc o):=(Below.refl _ w).alloc (jP _) o
structure No(x:Obj):Type
structure Na(x:Array Value):Type
structure Nv(x:Value):Type
instance {x:qM}:CoeOut (Nw x) qM:=⟨fun _=>x⟩
instance {x:Obj}:CoeOut (No x) Obj:=⟨fun _=>x⟩
instance {x:Array Value}:CoeOut (Na x) (Array Value):=⟨fun _=>x⟩
instance {x:Value}:CoeOut (Nv x) Value:=⟨fun _=>x⟩
theorem Ah{a b:Bool}(h:a=b):Ending.returned (.bool a)= rT (.bool b):=by rw[h]
theorem Fw{k:IntKind}{a b:Int}(h:a=b):Ending.returned (.int k a)= rT (.int k b):=by rw[h]
theorem Ks{W w1:qM}(hb:Below W W w1):(∀b o,b<W.heap.size->w1.cell? ⟨b,o,none⟩=W.cell? ⟨b,o,none⟩)/\(∀b o,b<W.heap.size->w1.frozen? ⟨b,o,none⟩=W.frozen? ⟨b,o,none⟩):=
 ⟨fun b o h=>hb.cell (p:=⟨b,o,none⟩) h,fun b o h=>hb.frozen (p:=⟨b,o,none⟩) h⟩
def Ev(x lo hi:Int):Bool:=decide (lo<=x)&&decide (x<=hi)
theorem Ll(h:lo<=x):Ev x lo hi=decide (x<=hi):=by simp[Ev,h]
theorem Oe(h:x<lo):Ev x lo hi=false:=by simp[Ev];omega
theorem Cm(x lo hi:Int)(w:qM):
 Calls prog 24 #[.int .i64 x,.int .i64 lo,.int .i64 hi] w fun e w'=>e= rT (.bool (Ev x lo hi))/\w'=w:=by
 go_enter func24,ntmps24
 go_wp2
 ·go_ret;exact⟨Ah (Ll ‹_›).symm,rfl⟩
 ·go_ret;exact⟨Ah (Oe ‹_›).symm,rfl⟩
theorem IV(x:Int)(w:qM):
 Calls prog 130 #[.int .i64 x] w fun e w'=>e= rT (.bool (Ev x 1 9999))/\w'=w:=by
 go_enter func130,ntmps130
 go_wp2
 ·go_ret;exact⟨Ah (Ll ‹_›).symm,rfl⟩
 ·go_ret;exact⟨Ah (Oe ‹_›).symm,rfl⟩
theorem GM(x:Int)(w:qM):
 Calls prog 129 #[.int .i64 x] w fun e w'=>e= rT (.bool (Ev x 0 3))/\w'=w:=by
 go_enter func129,ntmps129
 go_wp2
 ·go_ret;exact⟨Ah (Ll ‹_›).symm,rfl⟩
 ·go_ret;exact⟨Ah (Oe ‹_›).symm,rfl⟩
open Go.Deep
variable {w w':World}{n b:Nat}{f g:Nat->Int}
theorem Tryz.info96:(prog.info? 96).map (fun i=>(i.zero,i.size,i.bytes))=some (some (.agg #[.int .i64 0,.int .i64 0]),2,16):=by kernel_rfl
def Dx(f g:Nat->Int)(j:Nat):Value:=if j%2=0 then .int .i64 (f (j/2))else .int .i64 (g (j/2))
def Bd(w:World)(a:Option Addr)(n:Nat)(f g:Nat->Int):Prop:=
 0<n->∃b off,a=some ⟨b,off,none⟩/\b<w.heap.size/\∀i,i<n->w.cell? ⟨b,off+i*2,none⟩=some (.int .i64 (f i))/\w.cell? ⟨b,off+i*2+1,none⟩=some (.int .i64 (g i))
theorem Bd.below{a:Option Addr}(h:Bd w a n f g)(hb:Below w w w'):Bd w' a n f g:=fun hn=>by
 obtain⟨b,off,rfl,hlt,hc⟩:=h hn;obtain⟨h1,_⟩:=Ks hb;exact⟨b,off,rfl,Nat.lt_of_lt_of_le hlt hb.size,fun i hi=>by rw[h1 _ _ hlt,h1 _ _ hlt];exact hc i hi⟩
theorem Bd.row(h:w.rowIs b 96 (n*2) (Dx f g)):Bd w (some ⟨b,0,none⟩) n f g:=fun _=>by
 refine⟨b,0,rfl,h.lt,fun i hi=>⟨?_,?_⟩⟩
 ·have:=h.cell (i:=0+i*2) qQ;rw[this];have e1:(0+i*2)%2=0:=by omega
  have e2:(0+i*2)/2=i:=by omega
  simp only[Dx,e1,e2,if_true]
 ·have:=h.cell (i:=0+i*2+1) qQ;rw[this];have e1:¬(0+i*2+1)%2=0:=by omega
  have e2:(0+i*2+1)/2=i:=by omega
  simp only[Dx,e2,if_neg e1]
theorem World.rowIs.below{B:Nat}{t:TypeId}{f:Nat->Value}(h:w.rowIs b t n f)(hb:Below B w w')(hB:b<B):w'.rowIs b t n f:=
 h.of_block (hb.block b hB)

open _root_.List renaming range→qx,mem_range→jG,all_eq_true→kH
variable {base:Int}{n k:Nat}{f g:Nat->Int}
def Dv(base:Int)(f g:Nat->Int)(i:Nat):Bool:=Ev (f i) 1 9999&&Ev (g i) 0 3&& !(g i==base)&&(i==0||decide (f (i-1)<f i))
def Bb(base:Int)(n:Nat)(f g:Nat->Int):Bool:=Ev base 0 3&&decide (n<=12)&&(qx n).all (Dv base f g)
theorem PQ(h:Ev base 0 3=false):Bb base n f g=false:=by simp[Bb,h]
theorem Rj(h:12<n):Bb base n f g=false:=by
 have:decide (n<=12)=false:=by simp;omega
 simp[Bb,this]
theorem GP(hk:k<n)(h:Dv base f g k=false):Bb base n f g=false:=by
 have:(qx n).all (Dv base f g)=false:=by
  rw[List.all_eq_false];exact⟨k,jG.2 hk,by simp[h]⟩
 simp[Bb,this]
theorem Tj(hb:Ev base 0 3=true)(hn:n<=12)(h:∀i,i<n->Dv base f g i=true):Bb base n f g=true:=by
 have:(qx n).all (Dv base f g)=true:=by
  rw[kH];intro i hi;exact h i (jG.1 hi)
 simp[Bb,this,hb,hn]
theorem Kj(h:Bb base n f g=true):Ev base 0 3=true/\n<=12/\∀i,i<n->Dv base f g i=true:=by
 simp only[Bb,Bool.and_eq_true,decide_eq_true_eq,kH,jG]at h;exact⟨h.1.1,h.1.2,h.2⟩
theorem CY{x lo hi:Int}:Ev x lo hi=true↔lo<=x/\x<=hi:=by simp[Ev]
theorem Xu{i:Nat}:Dv base f g i=true↔(1<=f i/\f i<=9999)/\(0<=g i/\g i<=3)/\g i≠base/\(i=0∨f (i-1)<f i):=by
 simp[Dv,Ev,and_assoc]
def lastOf(f:Nat->Int)(k:Nat):Int:=if k=0 then 0 else f (k-1)
theorem Il(f:Nat->Int)(k:Nat):lastOf f (k+1)=f k:=by simp[lastOf]
theorem UX(h:Ev (f k) 1 9999=false):Dv base f g k=false:=by simp[Dv,h]
theorem aA(h0:Ev (f k) 1 9999=true)(h:f k<=lastOf f k):Dv base f g k=false:=by
 have h0:=CY.1 h0;by_cases e:k=0
 ·subst e;simp[lastOf]at h;omega
 ·simp[lastOf,e]at h;have:decide (f (k-1)<f k)=false:=by simp;omega
  simp[Dv,e,this]
theorem Ug(h:Ev (g k) 0 3=false):Dv base f g k=false:=by simp[Dv,h]
theorem UO(h:(g k==base)=true):Dv base f g k=false:=by simp[Dv,h]
theorem ci(h1:Ev (f k) 1 9999=true)(h2:¬f k<=lastOf f k)(h3:Ev (g k) 0 3=true)(h4:(g k==base)=false):Dv base f g k=true:=by
 by_cases e:k=0
 ·subst e;simp_all[Dv]
 ·simp[lastOf,e]at h2;simp[Dv,h1,h3,h4,h2]
theorem Eo(base:Int)(a:Option Addr)(n cap:Nat)(f g:Nat->Int)(w:World)(hn:n<=maxLen)(hc:Bd w a n f g):
 Calls prog 102 #[.agg #[.int .i64 base,.slice a n cap]] w fun e w'=>e= .returned (.bool (Bb base n f g))/\Below w w w':=by
 unfold maxLen at hn;by_cases hb:Ev base 0 3=true
 ·by_cases h12:12<n
  ·have h12':(12:Int)<(n:Int):=qQ;go_enter func102,ntmps102
   go_wp2_with(go_at_call 129;refine(GM _ _).mono ?_;rintro e w' ⟨rfl,rfl⟩)
   go_ret;exact⟨Ah (Rj h12).symm,Bg _ _⟩
  ·have h12':¬(12:Int)<(n:Int):=qQ;have n1:No (.cells #[.int .i64 base,.slice a n cap] 42):=⟨⟩;have hb0:=(Below.refl _ w).alloc nr n1;have hc1:=hc.below hb0;go_enter func102,ntmps102
   go_wp2_with(go_at_call 129;refine(GM _ _).mono ?_;rintro e w' ⟨rfl,rfl⟩)
   go_loopw [3,19] (fun l i wr=>∃k:Nat,k<=n/\i= .int .i64 k/\l= .int .i64 (lastOf f k)/\(∀j,j<k->Dv base f g j=true)/\Below (w.heap.size+1) (w.alloc n1) wr) (fun _ i _=>n-(intOf i).toNat)
   case atStart=>exact⟨0,Nat.zero_le _,rfl,rfl,fun j hj=>by omega,Below.refl _ _⟩
   case round=>
    obtain⟨k,hk,rfl,rfl,hall,hB⟩:=hrel;have x0:wr.cell? ⟨w,0,none⟩=some (.int .i64 base):=(hB.cell (p:=⟨w,0,none⟩) sI).trans sI;have hB':Below w w wr:=hb0.trans (hB.mono qQ);have zz:w.heap.size<wr.heap.size:=(by have:=hB.size;simp at this;omega);have x1:∀o,(wr.alloc o).cell? ⟨w,0,none⟩=some (.int .i64 base):=fun o=>(((Below.refl _ wr).alloc nr o).cell (p:=⟨w,0,none⟩) zz).trans x0;by_cases hlt':k<n
    ·obtain⟨b,off,rfl,hlt,hcc⟩:=hc qQ;obtain⟨h1,h2⟩:=hcc k hlt';have g1:wr.cell? ⟨b,off+k*2,none⟩=some (.int .i64 (f k)):=(hB'.cell (p:=⟨b,_,none⟩) hlt).trans h1;have g2:wr.cell? ⟨b,off+k*2+1,none⟩=some (.int .i64 (g k)):=(hB'.cell (p:=⟨b,_,none⟩) hlt).trans h2;clear h1 h2 hcc hc hc1 hb0;have HA:Hid (∀j,j<k->Dv base f g j=true):=hall;clear hall;by_cases t1:Ev (f k) 1 9999=true
     ·go_wp2_with(first|(go_at_call 129;refine(GM _ _).mono ?_;rintro e w' ⟨rfl,rfl⟩)|(go_at_call 130;refine(IV _ _).mono ?_;rintro e w' ⟨rfl,rfl⟩))
      ·go_ret;refine⟨Ah (GP hlt' (UO ?_)).symm,hB'.alloc qQ _⟩;have t2:lastOf f k<f k:=(by assumption);have t3:f k<=lastOf f k∨(g k==base)=true:=(by assumption);rcases t3 with t3|t3
       ·omega
       ·exact t3
      ·have t2:lastOf f k<f k:=(by assumption);have t3:Ev (g k) 0 3=true:=(by assumption);have t4:lastOf f k<f k/\(g k==base)=false:=(by assumption);go_roundw;case rel=>
        refine⟨k+1,by omega,by go_num,by rw[Il],fun j hj=>?_,hB.alloc qQ _⟩;by_cases e:j=k
        ·subst e;exact ci t1 qQ t3 t4.2
        ·exact HA.out j qQ
       case measure=>simp[intOf];omega
      ·go_ret;have t2:¬Ev (g k) 0 3=true:=(by assumption);exact⟨Ah (GP hlt' (Ug (by simpa using t2))).symm,hB'.alloc qQ _⟩
      ·go_ret;have t2:f k<=lastOf f k:=(by assumption);exact⟨Ah (GP hlt' (aA t1 t2)).symm,hB'.alloc qQ _⟩
     ·have t1':Ev (f k) 1 9999=false:=(by simpa using t1);clear t1;go_wp2_with(first|(go_at_call 129;refine(GM _ _).mono ?_;rintro e w' ⟨rfl,rfl⟩)|(go_at_call 130;refine(IV _ _).mono ?_;rintro e w' ⟨rfl,rfl⟩))
      go_ret;exact⟨Ah (GP hlt' (UX t1')).symm,hB'.alloc qQ _⟩
    ·have HA:Hid (∀j,j<k->Dv base f g j=true):=hall;clear hall hc hc1;go_wp2;go_ret;have e:k=n:=qQ;subst e;exact⟨Ah (Tj hb qQ HA).symm,hB'⟩
 ·have hb':Ev base 0 3=false:=by simpa using hb
  clear hb;go_enter func102,ntmps102
  go_wp2_with(go_at_call 129;refine(GM _ _).mono ?_;rintro e w' ⟨rfl,rfl⟩)
  go_ret;exact⟨Ah (PQ hb').symm,Bg _ _⟩
variable {base:Int}{f g:Nat->Int}{k:Nat}
theorem Zz(h0:0<k)(h:f k<=f (k-1)):Dv base f g k=false:=by
 have e:¬k=0:=by omega
 have:decide (f (k-1)<f k)=false:=by simp;omega
 simp[Dv,e,this]
theorem Vf(h1:Ev (f k) 1 9999=true)(h3:Ev (g k) 0 3=true)(h4:(g k==base)=false)(h:k=0∨f (k-1)<f k):Dv base f g k=true:=by
 rcases h with h|h<;>simp_all[Dv]
theorem Hz(base:Int)(a:Option Addr)(n cap:Nat)(f g:Nat->Int)(w:World)(hn:n<=maxLen)(hc:Bd w a n f g):
 Calls prog 48 #[.agg #[.int .i64 base,.slice a n cap]] w fun e w'=>e= .returned (.bool (Bb base n f g))/\Below w w w':=by
 unfold maxLen at hn;by_cases hb:Ev base 0 3=true
 ·by_cases h12:12<n
  ·have h12':(12:Int)<(n:Int):=qQ;go_enter func48,ntmps48
   go_wp2_with(go_at_call 24;refine(Cm _ _ _ _).mono ?_;rintro e w' ⟨rfl,rfl⟩)
   go_ret;exact⟨Ah (Rj h12).symm,Bg _ _⟩
  ·have h12':¬(12:Int)<(n:Int):=qQ;have n1:No (.cells #[.int .i64 base,.slice a n cap] 42):=⟨⟩;have hb0:=(Below.refl _ w).alloc nr n1;have hc1:=hc.below hb0;go_enter func48,ntmps48
   go_wp2_with(go_at_call 24;refine(Cm _ _ _ _).mono ?_;rintro e w' ⟨rfl,rfl⟩)
   go_loopw [3] (fun i wr=>∃k:Nat,k<=n/\i= .int .i64 k/\(∀j,j<k->Dv base f g j=true)/\Below (w.heap.size+1) (w.alloc n1) wr) (fun i _=>n-(intOf i).toNat)
   case atStart=>exact⟨0,Nat.zero_le _,rfl,fun j hj=>by omega,Below.refl _ _⟩
   case round=>
    obtain⟨k,hk,rfl,hall,hB⟩:=hrel;have x0:wr.cell? ⟨w,0,none⟩=some (.int .i64 base):=(hB.cell (p:=⟨w,0,none⟩) sI).trans sI;have y0:wr.cell? ⟨w,1,none⟩=some (.slice a n cap):=(hB.cell (p:=⟨w,1,none⟩) sI).trans sI;have hB':Below w w wr:=hb0.trans (hB.mono qQ);have zz:w.heap.size<wr.heap.size:=(by have:=hB.size;simp at this;omega);by_cases hlt':k<n
    ·obtain⟨b,off,rfl,hlt,hcc⟩:=hc qQ;obtain⟨h1,h2⟩:=hcc k hlt';have zb:b<wr.heap.size:=qQ;have g1:wr.cell? ⟨b,off+k*2,none⟩=some (.int .i64 (f k)):=(hB'.cell (p:=⟨b,_,none⟩) hlt).trans h1;have g2:wr.cell? ⟨b,off+k*2+1,none⟩=some (.int .i64 (g k)):=(hB'.cell (p:=⟨b,_,none⟩) hlt).trans h2;have x1:∀o,(wr.alloc o).cell? ⟨w,0,none⟩=some (.int .i64 base):=fun o=>(((Below.refl _ wr).alloc nr o).cell (p:=⟨w,0,none⟩) zz).trans x0;have y1:∀o,(wr.alloc o).cell? ⟨w,1,none⟩=some (.slice (some ⟨b,off,none⟩) n cap):=fun o=>(((Below.refl _ wr).alloc nr o).cell (p:=⟨w,1,none⟩) zz).trans y0;have i0:(0:Int)<=(k:Int):=qQ;have i1:(k:Int)<(n:Int):=qQ;have HA:Hid (∀j,j<k->Dv base f g j=true):=hall;clear h1 h2 hc hc1 hb0 hall;by_cases t1:Ev (f k) 1 9999=true
     ·by_cases t3:Ev (g k) 0 3=true
      ·by_cases t4:(g k==base)=true
       ·have t4':g k=base:=(by simpa using t4);clear t4;go_wp2_with fail
        go_quiet((go_at_call 24;exact Calls.quiet_of_same (Cm _ _ _ _)))
        go_wp2;go_ret;exact⟨Ah (GP hlt' (UO (by simpa using t4'))).symm,below_drewN (hB'.alloc qQ _) _⟩
       ·have t4':(g k==base)=false:=(by simpa using t4);clear t4;by_cases k0:k=0
        ·have d0:decide ((0:Int)<(k:Int))=false:=sO;have d1:decide (0<k)=false:=sO;have K0:Hid (k=0):=k0;clear k0;go_wp2_with fail
         go_quiet((go_at_call 24;exact Calls.quiet_of_same (Cm _ _ _ _)))
         go_wp2;go_roundw;case rel=>
          refine⟨k+1,by omega,by go_num,fun j hj=>?_,below_drewN (hB.alloc qQ _) _⟩;by_cases e:j=k
          ·subst e;exact Vf t1 t3 t4' (.inl K0)
          ·exact HA.out j qQ
         case measure=>simp[intOf];omega
        ·obtain⟨m,rfl⟩:∃m,k=m+1:=⟨k-1,by omega⟩;have d0:(0:Int)<((m+1:Nat):Int):=qQ;have q1:∀o,(wr.alloc o).cell? ⟨b,off+m*2,none⟩=some (.int .i64 (f m)):=fun o=>(((Below.refl _ wr).alloc nr o).cell (p:=⟨b,off+m*2,none⟩) zb).trans ((hB'.cell (p:=⟨b,_,none⟩) hlt).trans (hcc m qQ).1);have j1:((m:Nat):Int)<(n:Int):=qQ;clear hcc;by_cases t5:f (m+1)<=f m
         ·have d5:decide (f (m+1)<=f m)=true:=(by simpa using t5);go_wp2_with fail
          go_quiet((go_at_call 24;exact Calls.quiet_of_same (Cm _ _ _ _)))
          go_wp2;go_ret;exact⟨Ah (GP hlt' (Zz qQ t5)).symm,below_drewN (hB'.alloc qQ _) _⟩
         ·have d5:decide (f (m+1)<=f m)=false:=(by simpa using t5);go_wp2_with fail
          go_quiet((go_at_call 24;exact Calls.quiet_of_same (Cm _ _ _ _)))
          go_wp2;go_roundw;case rel=>
           refine⟨m+1+1,by omega,by go_num,fun j hj=>?_,below_drewN (hB.alloc qQ _) _⟩;by_cases e:j=(m+1)
           ·subst e;exact Vf t1 t3 t4' (.inr (by simpa using t5))
           ·exact HA.out j qQ
          case measure=>simp[intOf];omega
      ·have t3':Ev (g k) 0 3=false:=(by simpa using t3);clear t3;go_wp2_with fail
       go_quiet((go_at_call 24;exact Calls.quiet_of_same (Cm _ _ _ _)))
       go_wp2;go_ret;exact⟨Ah (GP hlt' (Ug t3')).symm,below_drewN (hB'.alloc qQ _) _⟩
     ·have t1':Ev (f k) 1 9999=false:=(by simpa using t1);clear t1;go_wp2_with fail
      go_quiet((go_at_call 24;exact Calls.quiet_of_same (Cm _ _ _ _)))
      go_wp2;go_ret;exact⟨Ah (GP hlt' (UX t1')).symm,below_drewN (hB'.alloc qQ _) _⟩
    ·have HA:Hid (∀j,j<k->Dv base f g j=true):=hall;clear hall hc hc1;go_wp2;go_ret;have e:k=n:=qQ;subst e;exact⟨Ah (Tj hb qQ HA).symm,hB'⟩
 ·have hb':Ev base 0 3=false:=by simpa using hb
  clear hb;go_enter func48,ntmps48
  go_wp2_with(go_at_call 24;refine(Cm _ _ _ _).mono ?_;rintro e w' ⟨rfl,rfl⟩)
  go_ret;exact⟨Ah (PQ hb').symm,Bg _ _⟩
variable {w:World}{n:Nat}{h:Nat->Int}
def Bp(w:World)(a:Option Addr)(n:Nat)(h:Nat->Int):Prop:=
 0<n->∃b off,a=some ⟨b,off,none⟩/\b<w.heap.size/\∀i,i<n->w.cell? ⟨b,off+i,none⟩=some (.int .i64 (h i))
theorem Bp.below{w':World}{a:Option Addr}(hc:Bp w a n h)(hb:Below w w w'):Bp w' a n h:=fun hn=>by
 obtain⟨b,off,rfl,hlt,hc⟩:=hc hn;obtain⟨h1,_⟩:=Ks hb;exact⟨b,off,rfl,Nat.lt_of_lt_of_le hlt hb.size,fun i hi=>by rw[h1 _ _ hlt];exact hc i hi⟩
theorem Bp.row{b:Nat}{t:TypeId}(hr:w.rowIs b t n (fun i=> .int .i64 (h i))):Bp w (some ⟨b,0,none⟩) n h:=fun _=>
 ⟨b,0,rfl,hr.lt,fun i hi=>by rw[Nat.zero_add];exact hr.cell hi⟩
theorem Tryz.info2:(prog.info? 2).map (fun i=>(i.zero,i.size,i.bytes))=some (some (.int .i64 0),1,8):=by kernel_rfl
open _root_.Nat renaming zero_le→qy
variable {n k:Nat}{h:Nat->Int}
def Ef(h:Nat->Int)(i:Nat):Bool:=Ev (h i) 1 9999&&(i==0||decide (h (i-1)<h i))
def Cf(n:Nat)(h:Nat->Int):Bool:=decide (n<=10)&&(qx n).all (Ef h)
theorem Yl(e:10<n):Cf n h=false:=by
 have:decide (n<=10)=false:=by simp;omega
 simp[Cf,this]
theorem LV(hk:k<n)(e:Ef h k=false):Cf n h=false:=by
 have:(qx n).all (Ef h)=false:=by
  rw[List.all_eq_false];exact⟨k,jG.2 hk,by simp[e]⟩
 simp[Cf,this]
theorem Rc(e:∀i,i<n->Ef h i=true):Cf n h=decide (n<=10):=by
 have:(qx n).all (Ef h)=true:=by
  rw[kH];intro i hi;exact e i (jG.1 hi)
 simp[Cf,this]
theorem Rk(e:Cf n h=true):n<=10/\∀i,i<n->Ef h i=true:=by
 simp only[Cf,Bool.and_eq_true,decide_eq_true_eq,kH,jG]at e;exact e
theorem Uc(e:Ev (h k) 1 9999=false):Ef h k=false:=by simp[Ef,e]
theorem Zj(h0:Ev (h k) 1 9999=true)(e:h k<=lastOf h k):Ef h k=false:=by
 have h0:=CY.1 h0;by_cases e0:k=0
 ·subst e0;simp[lastOf]at e;omega
 ·simp[lastOf,e0]at e;have:decide (h (k-1)<h k)=false:=by simp;omega
  simp[Ef,e0,this]
theorem bR(h1:Ev (h k) 1 9999=true)(h2:lastOf h k<h k):Ef h k=true:=by
 by_cases e:k=0
 ·subst e;simp_all[Ef]
 ·simp[lastOf,e]at h2;simp[Ef,h1,h2]
theorem aI(h0:0<k)(e:h k<=h (k-1)):Ef h k=false:=by
 have e0:¬k=0:=by omega
 have:decide (h (k-1)<h k)=false:=by simp;omega
 simp[Ef,e0,this]
theorem Un(h1:Ev (h k) 1 9999=true)(e:k=0∨h (k-1)<h k):Ef h k=true:=by
 rcases e with e|e<;>simp_all[Ef]
theorem Ja(a:Option Addr)(n cap:Nat)(h:Nat->Int)(w:World)(hn:n<=maxLen)(hc:Bp w a n h):
 Calls prog 103 #[.slice a n cap] w fun e w'=>e= .returned (.bool (Cf n h))/\w'=w:=by
 unfold maxLen at hn;by_cases h10:10<n
 ·have h10':(10:Int)<(n:Int):=by omega
  go_enter func103,ntmps103
  go_wp2;go_ret;exact⟨Ah (Yl h10).symm,rfl⟩
 ·have h10':¬(10:Int)<(n:Int):=by omega
  go_enter func103,ntmps103
  go_wp2;go_loop [3,11] (fun l i=>∃k:Nat,k<=n/\i= .int .i64 k/\l= .int .i64 (lastOf h k)/\(∀j,j<k->Ef h j=true)) (fun _ i=>n-(intOf i).toNat)
  case atStart=>exact⟨0,qy _,rfl,rfl,fun j hj=>by omega⟩
  case round=>
   obtain⟨k,hk,rfl,rfl,hall⟩:=hrel;have HA:Hid (∀j,j<k->Ef h j=true):=hall;clear hall;by_cases hlt':k<n
   ·obtain⟨b,off,rfl,hlt,hcc⟩:=hc qQ;have g1:=hcc k hlt';clear hcc hc;by_cases t1:Ev (h k) 1 9999=true
    ·go_wp2_with(go_at_call 130;refine(IV _ _).mono ?_;rintro e w' ⟨rfl,rfl⟩)
     ·go_ret;have t2:h k<=lastOf h k:=(by assumption);exact⟨Ah (LV hlt' (Zj t1 t2)).symm,rfl⟩
     ·have t2:lastOf h k<h k:=(by assumption);go_round;case rel=>
       refine⟨k+1,by omega,by go_num,by rw[Il],fun j hj=>?_⟩;by_cases e:j=k
       ·subst e;exact bR t1 t2
       ·exact HA.out j qQ
      case measure=>simp[intOf];omega
    ·have t1':Ev (h k) 1 9999=false:=(by simpa using t1);clear t1;go_wp2_with(go_at_call 130;refine(IV _ _).mono ?_;rintro e w' ⟨rfl,rfl⟩)
     go_ret;exact⟨Ah (LV hlt' (Uc t1')).symm,rfl⟩
   ·clear hc;go_wp2;go_ret;have e:k=n:=qQ;subst e;exact⟨Ah (by rw[Rc HA.out];simp;omega),rfl⟩
theorem Pd(a:Option Addr)(n cap:Nat)(h:Nat->Int)(w:World)(hn:n<=maxLen)(hc:Bp w a n h):
 Calls prog 49 #[.slice a n cap] w fun e w'=>e= .returned (.bool (Cf n h))/\Below w w w':=by
 unfold maxLen at hn;go_enter func49,ntmps49
 go_wp2;go_loopw [3] (fun i wr=>∃k:Nat,k<=n/\i= .int .i64 k/\(∀j,j<k->Ef h j=true)/\Below w w wr) (fun i _=>n-(intOf i).toNat)
 case atStart=>exact⟨0,qy _,rfl,fun j hj=>by omega,Below.refl _ _⟩
 case round=>
  obtain⟨k,hk,rfl,hall,hB⟩:=hrel;have HA:Hid (∀j,j<k->Ef h j=true):=hall;clear hall;by_cases hlt':k<n
  ·obtain⟨b,off,rfl,hlt,hcc⟩:=hc qQ;have g1:wr.cell? ⟨b,off+k,none⟩=some (.int .i64 (h k)):=(hB.cell (p:=⟨b,_,none⟩) hlt).trans (hcc k hlt');have i0:(0:Int)<=(k:Int):=qQ;have i1:(k:Int)<(n:Int):=qQ;clear hc;by_cases t1:Ev (h k) 1 9999=true
   ·by_cases k0:k=0
    ·have d0:decide ((0:Int)<(k:Int))=false:=sO;have d1:decide (0<k)=false:=sO;have K0:Hid (k=0):=k0;clear k0 hcc;go_wp2_with fail
     go_quiet((go_at_call 24;exact Calls.quiet_of_same (Cm _ _ _ _)))
     go_wp2;go_roundw;case rel=>
      refine⟨k+1,by omega,by go_num,fun j hj=>?_,below_drewN hB _⟩;by_cases e:j=k
      ·subst e;exact Un t1 (.inl K0)
      ·exact HA.out j qQ
     case measure=>simp[intOf];omega
    ·obtain⟨m,rfl⟩:∃m,k=m+1:=⟨k-1,by omega⟩;have d0:(0:Int)<((m+1:Nat):Int):=qQ;have q1:wr.cell? ⟨b,off+m,none⟩=some (.int .i64 (h m)):=(hB.cell (p:=⟨b,_,none⟩) hlt).trans (hcc m qQ);have j1:((m:Nat):Int)<(n:Int):=qQ;clear hcc;by_cases t5:h (m+1)<=h m
     ·have d5:decide (h (m+1)<=h m)=true:=(by simpa using t5);go_wp2_with fail
      go_quiet((go_at_call 24;exact Calls.quiet_of_same (Cm _ _ _ _)))
      go_wp2;go_ret;exact⟨Ah (LV hlt' (aI qQ t5)).symm,below_drewN hB _⟩
     ·have d5:decide (h (m+1)<=h m)=false:=(by simpa using t5);go_wp2_with fail
      go_quiet((go_at_call 24;exact Calls.quiet_of_same (Cm _ _ _ _)))
      go_wp2;go_roundw;case rel=>
       refine⟨m+1+1,by omega,by go_num,fun j hj=>?_,below_drewN hB _⟩;by_cases e:j=m+1
       ·subst e;exact Un t1 (.inr (by simpa using t5))
       ·exact HA.out j qQ
      case measure=>simp[intOf];omega
   ·have t1':Ev (h k) 1 9999=false:=(by simpa using t1);clear t1 hcc;go_wp2_with fail
    go_quiet((go_at_call 24;exact Calls.quiet_of_same (Cm _ _ _ _)))
    go_wp2;go_ret;exact⟨Ah (LV hlt' (Uc t1')).symm,below_drewN hB _⟩
  ·clear hc;go_wp2;go_ret;have e:k=n:=qQ;subst e;exact⟨Ah (by rw[Rc HA.out];exact decide_eq_decide.2 qQ),hB⟩
open Go.Value renaming slice→qV,int→iT
open Go.IntKind renaming i64→qH
def Dz(id made b1:Int)(n1:Nat)(f1 g1:Nat->Int)(b2:Int)(n2:Nat)(f2 g2:Nat->Int)(n3:Nat)(h:Nat->Int):Bool:=
 Ev id 1 9&&Bb b1 n1 f1 g1&&Bb b2 n2 f2 g2&&Cf n3 h&&Ev made 0 30
theorem X6{id made b1:Int}{n1:Nat}{f1 g1:Nat->Int}{b2:Int}{n2:Nat}{f2 g2:Nat->Int}{n3:Nat}{h:Nat->Int}(t0:Ev id 1 9=true)(t1:Bb b1 n1 f1 g1=true)(t2:Bb b2 n2 f2 g2=true)(t3:Cf n3 h=true):
 Dz id made b1 n1 f1 g1 b2 n2 f2 g2 n3 h=Ev made 0 30:=by simp[Dz,t0,t1,t2,t3]
theorem UV(id made b1:Int)(a1:Option Addr)(n1 k1:Nat)(f1 g1:Nat->Int)(b2:Int)(a2:Option Addr)(n2 k2:Nat)(f2 g2:Nat->Int)(a3:Option Addr)(n3 k3:Nat)(h:Nat->Int)(w:World)
 (hn1:n1<=maxLen)(hn2:n2<=maxLen)(hn3:n3<=maxLen)(hc1:Bd w a1 n1 f1 g1)(hc2:Bd w a2 n2 f2 g2)(hc3:Bp w a3 n3 h):
 Calls prog 20 #[.agg #[iT qH id,iT qH b1,qV a1 n1 k1,iT qH b2,qV a2 n2 k2,qV a3 n3 k3,iT qH made]] w fun e w'=>e= .returned (.bool (Dz id made b1 n1 f1 g1 b2 n2 f2 g2 n3 h))/\Below w w w':=by
 have hb0:=Bg w (.cells #[iT qH id,iT qH b1,qV a1 n1 k1,iT qH b2,qV a2 n2 k2,qV a3 n3 k3,iT qH made] 53);have C1:=hc1.below hb0;have C2:=hc2.below hb0;have C3:=hc3.below hb0;clear hc1 hc2 hc3;by_cases t0:Ev id 1 9=true
 ·skip;go_enter func20,ntmps20
  go_wp2_with(go_at_call 24;refine(Cm _ _ _ _).mono ?_;rintro e w' ⟨rfl,rfl⟩)
  refine(Hz _ _ _ _ f1 g1 _ hn1 C1).mono ?_;rintro e w1 ⟨rfl,hb1⟩;obtain⟨q1,_⟩:=Ks hb1;have z1:w.heap.size<w1.heap.size:=by have:=hb1.size;simp at this;omega
  have B1:Below w w w1:=hb0.trans (hb1.mono sI);by_cases t1:Bb b1 n1 f1 g1=true
  ·go_wp2_with fail
   refine(Hz _ _ _ _ f2 g2 _ hn2 (C2.below hb1)).mono ?_;rintro e w2 ⟨rfl,hb2⟩;obtain⟨q2,_⟩:=Ks hb2;have z2:w.heap.size<w2.heap.size:=(by have:=hb2.size;omega);have B2:Below w w w2:=B1.trans (hb2.mono qQ);by_cases t2:Bb b2 n2 f2 g2=true
   ·go_wp2_with fail
    refine(Pd _ _ _ h _ hn3 ((C3.below hb1).below hb2)).mono ?_;rintro e w3 ⟨rfl,hb3⟩;obtain⟨q3,_⟩:=Ks hb3;have z3:w.heap.size<w3.heap.size:=(by have:=hb3.size;omega);have B3:Below w w w3:=B2.trans (hb3.mono qQ);by_cases t3:Cf n3 h=true
    ·go_wp2_with(go_at_call 24;refine(Cm _ _ _ _).mono ?_;rintro e w' ⟨rfl,rfl⟩)
     go_ret;exact⟨Ah (by simp[Dz,t0,t1,t2,t3]),B3⟩
    ·have t3':Cf n3 h=false:=(by simpa using t3);clear t3;go_wp2;go_ret;exact⟨Ah (by simp[Dz,t3']),B3⟩
   ·have t2':Bb b2 n2 f2 g2=false:=(by simpa using t2);clear t2;go_wp2;go_ret;exact⟨Ah (by simp[Dz,t2']),B2⟩
  ·have t1':Bb b1 n1 f1 g1=false:=(by simpa using t1);clear t1;go_wp2;go_ret;exact⟨Ah (by simp[Dz,t1']),B1⟩
 ·have t0':Ev id 1 9=false:=by simpa using t0
  clear t0;go_enter func20,ntmps20
  go_wp2_with(go_at_call 24;refine(Cm _ _ _ _).mono ?_;rintro e w' ⟨rfl,rfl⟩)
  go_ret;exact⟨Ah (by simp[Dz,t0']),hb0⟩
theorem JV(id made b1:Int)(a1:Option Addr)(n1 k1:Nat)(f1 g1:Nat->Int)(b2:Int)(a2:Option Addr)(n2 k2:Nat)(f2 g2:Nat->Int)(a3:Option Addr)(n3 k3:Nat)(h:Nat->Int)(w:World)
 (hn1:n1<=maxLen)(hn2:n2<=maxLen)(hn3:n3<=maxLen)(hc1:Bd w a1 n1 f1 g1)(hc2:Bd w a2 n2 f2 g2)(hc3:Bp w a3 n3 h):
 Calls prog 59 #[.agg #[iT qH id,iT qH b1,qV a1 n1 k1,iT qH b2,qV a2 n2 k2,qV a3 n3 k3,iT qH made]] w fun e w'=>e= .returned (.bool (Dz id made b1 n1 f1 g1 b2 n2 f2 g2 n3 h))/\Below w w w':=by
 have hb0:=Bg w (.cells #[iT qH id,iT qH b1,qV a1 n1 k1,iT qH b2,qV a2 n2 k2,qV a3 n3 k3,iT qH made] 53);have C1:=hc1.below hb0;have C2:=hc2.below hb0;have C3:=hc3.below hb0;clear hc1 hc2 hc3;by_cases t0:Ev id 1 9=true
 ·obtain⟨s1,s2⟩:=CY.1 t0;go_enter func59,ntmps59
  go_wp2_with fail
  refine(Eo _ _ _ _ f1 g1 _ hn1 C1).mono ?_;rintro e w1 ⟨rfl,hb1⟩;obtain⟨q1,_⟩:=Ks hb1;have z1:w.heap.size<w1.heap.size:=by have:=hb1.size;simp at this;omega
  have B1:Below w w w1:=hb0.trans (hb1.mono sI);by_cases t1:Bb b1 n1 f1 g1=true
  ·go_wp2_with fail
   refine(Eo _ _ _ _ f2 g2 _ hn2 (C2.below hb1)).mono ?_;rintro e w2 ⟨rfl,hb2⟩;obtain⟨q2,_⟩:=Ks hb2;have z2:w.heap.size<w2.heap.size:=(by have:=hb2.size;omega);have B2:Below w w w2:=B1.trans (hb2.mono qQ);by_cases t2:Bb b2 n2 f2 g2=true
   ·go_wp2_with fail
    refine(Ja _ _ _ h _ hn3 ((C3.below hb1).below hb2)).mono ?_;rintro e w3 ⟨rfl,rfl⟩;have B3:=B2;by_cases t3:Cf n3 h=true
    ·go_wp2;all_goals
      go_ret;refine⟨Ah ?_,B3⟩;rw[X6 t0 t1 t2 t3];first|exact(Ll (by assumption)).symm|exact(Oe (by assumption)).symm
    ·have t3':Cf n3 h=false:=(by simpa using t3);clear t3;go_wp2;go_ret;exact⟨Ah (by simp[Dz,t3']),B3⟩
   ·have t2':Bb b2 n2 f2 g2=false:=(by simpa using t2);clear t2;go_wp2;go_ret;exact⟨Ah (by simp[Dz,t2']),B2⟩
  ·have t1':Bb b1 n1 f1 g1=false:=(by simpa using t1);clear t1;go_wp2;go_ret;exact⟨Ah (by simp[Dz,t1']),B1⟩
 ·have t0':Ev id 1 9=false:=by simpa using t0
  clear t0;go_enter func59,ntmps59
  by_cases s1:1<=id
  ·have s2:¬id<=9:=fun s2=>by simp[Ev,s1,s2]at t0'
   go_wp2;go_ret;exact⟨Ah (by simp[Dz,t0']),hb0⟩
  ·go_wp2;go_ret;exact⟨Ah (by simp[Dz,t0']),hb0⟩

variable {W:World}{P:Nat}{o:Obj}
def Ag(W:World)(P:Nat)(o:Obj):Prop:=W.heap[P]? =some o
theorem Ag.new(W:World)(o:Obj):Ag (W.alloc o) W o:=blk_alloc_new _ _
theorem Ag.lt(h:Ag W P o):P<W.heap.size:=(Array.getElem?_eq_some_iff.1 h).1
theorem Ag.alloc(h:Ag W P o)(o':Obj):Ag (W.alloc o') P o:=(blk_alloc_lt _ _ _ h.lt).trans h
theorem Ag.below{W':World}(h:Ag W P o)(hb:Below W W W'):Ag W' P o:=(hb.block P h.lt).trans h
theorem Ag.two{t:Nat}{x y:Value}(h:Ag W P (.cells #[x,y] t)):W.cell? ⟨P,0,none⟩=some x/\W.cell? ⟨P,1,none⟩=some y:=by
 unfold Ag at h;simp[World.cell?,h]
variable {w w':World}
theorem qC{p:Prop}(h:p):Hid p:=h
theorem Af{a b:World}(h:Below w w a)(k:Below a a b):Below w w b:=h.trans (k.mono h.size)
structure As where
 a:Option Addr
 n:Nat
 k:Nat
 f:Nat->Int
 g:Nat->Int
structure AJ where
 a:Option Addr
 n:Nat
 k:Nat
 h:Nat->Int
def As.at(w:World)(c:As):Prop:=c.n<=maxLen/\Bd w c.a c.n c.f c.g
def AJ.at(w:World)(c:AJ):Prop:=c.n<=maxLen/\Bp w c.a c.n c.h
def As.val(c:As):Value:= .slice c.a c.n c.k
def AJ.val(c:AJ):Value:= .slice c.a c.n c.k
instance:Coe As Value:=⟨fun c=>.slice c.a c.n c.k⟩
instance:Coe AJ Value:=⟨fun c=>.slice c.a c.n c.k⟩
structure Ae where
 id:Int
 b1:Int
 c1:As
 b2:Int
 c2:As
 own:AJ
 made:Int
instance:Coe Ae (Array Value):=⟨fun t=>#[t.id,t.b1,.slice t.c1.a t.c1.n t.c1.k,t.b2,.slice t.c2.a t.c2.n t.c2.k,.slice t.own.a t.own.n t.own.k,t.made]⟩
def Ae.val(t:Ae):Value:= .agg #[t.id,t.b1,t.c1.val,t.b2,t.c2.val,t.own.val,t.made]
def Ae.at(w:World)(t:Ae):Prop:=t.c1.at w/\t.c2.at w/\t.own.at w
theorem As.at.below{c:As}(h:c.at w)(hb:Below w w w'):c.at w':=⟨h.1,h.2.below hb⟩
theorem AJ.at.below{c:AJ}(h:c.at w)(hb:Below w w w'):c.at w':=⟨h.1,h.2.below hb⟩
theorem Ae.at.below{t:Ae}(h:t.at w)(hb:Below w w w'):t.at w':=⟨h.1.below hb,h.2.1.below hb,h.2.2.below hb⟩
structure FA(w:World)(b o:Nat)(t:Ae):Prop where
 c0:w.cell? ⟨b,o,none⟩=some (.int .i64 t.id)
 c1:w.cell? ⟨b,o+1,none⟩=some (.int .i64 t.b1)
 c2:w.cell? ⟨b,o+2,none⟩=some t.c1.val
 c3:w.cell? ⟨b,o+3,none⟩=some (.int .i64 t.b2)
 c4:w.cell? ⟨b,o+4,none⟩=some t.c2.val
 c5:w.cell? ⟨b,o+5,none⟩=some t.own.val
 c6:w.cell? ⟨b,o+6,none⟩=some (.int .i64 t.made)
theorem FA.below{b o:Nat}{t:Ae}(h:FA w b o t)(hl:b<w.heap.size)(hb:Below w w w'):FA w' b o t:=
 ⟨(hb.cell (p:=⟨b,o,none⟩) hl).trans h.c0,(hb.cell (p:=⟨b,o+1,none⟩) hl).trans h.c1,(hb.cell (p:=⟨b,o+2,none⟩) hl).trans h.c2,(hb.cell (p:=⟨b,o+3,none⟩) hl).trans h.c3,(hb.cell (p:=⟨b,o+4,none⟩) hl).trans h.c4,(hb.cell (p:=⟨b,o+5,none⟩) hl).trans h.c5,(hb.cell (p:=⟨b,o+6,none⟩) hl).trans h.c6⟩
def Jb(w:World)(a:Option Addr)(n:Nat)(T:Nat->Ae):Prop:=
 0<n->∃b off,a=some ⟨b,off,none⟩/\b<w.heap.size/\∀i,i<n->FA w b (off+i*7) (T i)/\(T i).at w
theorem Jb.below{a:Option Addr}{n:Nat}{T:Nat->Ae}(h:Jb w a n T)(hb:Below w w w'):Jb w' a n T:=fun hn=>by
 obtain⟨b,off,e,hlt,hc⟩:=h hn;exact⟨b,off,e,Nat.lt_of_lt_of_le hlt hb.size,fun i hi=>⟨(hc i hi).1.below hlt hb,(hc i hi).2.below hb⟩⟩
def Ae.small(t:Ae):Prop:=t.c1.n<=1048576/\t.c2.n<=1048576/\t.own.n<=1048576
open _root_.Nat renaming lt_of_lt_of_le→qv
variable {w w':World}{a:Option Addr}{n:Nat}
def JL(w:World)(a:Option Addr)(n:Nat)(f:Nat->ByteArray):Prop:=0<n->∃b off,a=some ⟨b,off,none⟩/\b<w.heap.size/\∀i,i<n->w.cell? ⟨b,off+i,none⟩=some (.string (f i))
theorem JL.below{f:Nat->ByteArray}(h:JL w a n f)(hb:Below w w w'):JL w' a n f:=fun hn=>by
 obtain⟨b,off,e,hlt,hc⟩:=h hn;exact⟨b,off,e,qv hlt hb.size,fun i hi=>(hb.cell (p:=⟨b,off+i,none⟩) hlt).trans (hc i hi)⟩
structure AE where
 a:Option Addr
 n:Nat
 k:Nat
 f:Nat->ByteArray
def AE.at(w:World)(c:AE):Prop:=c.n<=maxLen/\JL w c.a c.n c.f/\∀i,i<c.n->(c.f i).size<=maxLen
def AE.val(c:AE):Value:= qV c.a c.n c.k
theorem AE.at.below{c:AE}(h:c.at w)(hb:Below w w w'):c.at w':=⟨h.1,h.2.1.below hb,h.2.2⟩
def AE.small(c:AE):Prop:=c.n<=1048576/\∀i,i<c.n->(c.f i).size<=1048576
instance:Coe AE Value:=⟨fun c=>qV c.a c.n c.k⟩
structure Ab where
 id:Int
 kind:Int
 up:Int
 b1:Int
 c1:As
 data:ByteArray
 jA:AE
 own:AJ
 b2:Int
 c2:As
instance:Coe Ab (Array Value):=⟨fun t=>#[t.id,t.kind,t.up,t.b1,qV t.c1.a t.c1.n t.c1.k,.string t.data,qV t.jA.a t.jA.n t.jA.k,qV t.own.a t.own.n t.own.k,t.b2,qV t.c2.a t.c2.n t.c2.k]⟩
def Ab.val(t:Ab):Value:= .agg #[t.id,t.kind,t.up,t.b1,t.c1.val,.string t.data,t.jA.val,t.own.val,t.b2,t.c2.val]
def Ab.at(w:World)(t:Ab):Prop:=t.c1.at w/\t.jA.at w/\t.own.at w/\t.c2.at w/\t.data.size<=maxLen
theorem Ab.at.below{t:Ab}(h:t.at w)(hb:Below w w w'):t.at w':=⟨h.1.below hb,h.2.1.below hb,h.2.2.1.below hb,h.2.2.2.1.below hb,h.2.2.2.2⟩
def Ab.small(t:Ab):Prop:=t.c1.n<=1048576/\t.data.size<=1048576/\t.jA.small/\t.own.n<=1048576/\t.c2.n<=1048576
structure Di(w:World)(b o:Nat)(t:Ab):Prop where
 c0:w.cell? ⟨b,o,none⟩=some (.int .i64 t.id)
 c1:w.cell? ⟨b,o+1,none⟩=some (.int .i64 t.kind)
 c2:w.cell? ⟨b,o+2,none⟩=some (.int .i64 t.up)
 c3:w.cell? ⟨b,o+3,none⟩=some (.int .i64 t.b1)
 c4:w.cell? ⟨b,o+4,none⟩=some t.c1.val
 c5:w.cell? ⟨b,o+5,none⟩=some (.string t.data)
 c6:w.cell? ⟨b,o+6,none⟩=some t.jA.val
 c7:w.cell? ⟨b,o+7,none⟩=some t.own.val
 c8:w.cell? ⟨b,o+8,none⟩=some (.int .i64 t.b2)
 c9:w.cell? ⟨b,o+9,none⟩=some t.c2.val
theorem Di.below{b o:Nat}{t:Ab}(h:Di w b o t)(hl:b<w.heap.size)(hb:Below w w w'):Di w' b o t:=
 ⟨(hb.cell (p:=⟨b,o,none⟩) hl).trans h.c0,(hb.cell (p:=⟨b,o+1,none⟩) hl).trans h.c1,(hb.cell (p:=⟨b,o+2,none⟩) hl).trans h.c2,(hb.cell (p:=⟨b,o+3,none⟩) hl).trans h.c3,(hb.cell (p:=⟨b,o+4,none⟩) hl).trans h.c4,(hb.cell (p:=⟨b,o+5,none⟩) hl).trans h.c5,(hb.cell (p:=⟨b,o+6,none⟩) hl).trans h.c6,(hb.cell (p:=⟨b,o+7,none⟩) hl).trans h.c7,(hb.cell (p:=⟨b,o+8,none⟩) hl).trans h.c8,(hb.cell (p:=⟨b,o+9,none⟩) hl).trans h.c9⟩
def Io(w:World)(a:Option Addr)(n:Nat)(T:Nat->Ab):Prop:=
 0<n->∃b off,a=some ⟨b,off,none⟩/\b<w.heap.size/\∀i,i<n->Di w b (off+i*10) (T i)/\(T i).at w
theorem Io.below{T:Nat->Ab}(h:Io w a n T)(hb:Below w w w'):Io w' a n T:=fun hn=>by
 obtain⟨b,off,e,hlt,hc⟩:=h hn;exact⟨b,off,e,qv hlt hb.size,fun i hi=>⟨(hc i hi).1.below hlt hb,(hc i hi).2.below hb⟩⟩
theorem Ag.jE{W:World}{P t:Nat}{x0 x1 x2 x3 x4 x5 x6 x7 x8 x9:Value}(h:Ag W P (.cells #[x0,x1,x2,x3,x4,x5,x6,x7,x8,x9] t)):W.cell? ⟨P,0,none⟩=some x0/\W.cell? ⟨P,1,none⟩=some x1/\W.cell? ⟨P,2,none⟩=some x2/\W.cell? ⟨P,3,none⟩=some x3/\W.cell? ⟨P,4,none⟩=some x4/\W.cell? ⟨P,5,none⟩=some x5/\W.cell? ⟨P,6,none⟩=some x6/\W.cell? ⟨P,7,none⟩=some x7/\W.cell? ⟨P,8,none⟩=some x8/\W.cell? ⟨P,9,none⟩=some x9:=by
 unfold Ag at h;simp[World.cell?,h]
def Ab.cells(t:Ab):Array Value:=#[t.id,t.kind,t.up,t.b1,t.c1.val,.string t.data,t.jA.val,t.own.val,t.b2,t.c2.val]
structure Av where
 ta:Option Addr
 tn:Nat
 tk:Nat
 T:Nat->Ae
 oa:Option Addr
 on:Nat
 ok:Nat
 O:Nat->Ab
def Av.val(k:Av):Value:= .agg #[qV k.ta k.tn k.tk,qV k.oa k.on k.ok]
def Av.at(w:World)(k:Av):Prop:=k.tn<=maxLen/\k.on<=maxLen/\Jb w k.ta k.tn k.T/\Io w k.oa k.on k.O
theorem Av.at.below{k:Av}(h:k.at w)(hb:Below w w w'):k.at w':=⟨h.1,h.2.1,h.2.2.1.below hb,h.2.2.2.below hb⟩
def Av.small(k:Av):Prop:=(k.tn<=1048576/\∀i,i<k.tn->(k.T i).small)/\(k.on<=1048576/\∀i,i<k.on->(k.O i).small)
variable {s:ByteArray}{most:Int}{b:UInt8}
def FR(b:UInt8):Bool:=decide (32<=b.toNat)&&decide (b.toNat<=126)
def By(s:ByteArray)(most:Int):Bool:=s.data.toList.all FR&&decide ((s.size:Int)<=most)
theorem Mc{k:Nat}(h:k<s.size)(hb:FR s[k]=false):By s most=false:=by
 have:s.data.toList.all FR=false:=by
  rw[List.all_eq_false];exact⟨s[k],Array.getElem_mem_toList h,by simp[hb]⟩
 simp[By,this]
theorem Rq(h:∀(k:Nat) (hk:k<s.size),FR s[k]=true):By s most=decide ((s.size:Int)<=most):=by
 have:s.data.toList.all FR=true:=by
  rw[List.all_eq_true];intro b hb;obtain⟨k,hk,rfl⟩:=List.getElem_of_mem hb;have hk':k<s.size:=by simpa using hk
  have:=h k hk';have e:s[k]=s.data.toList[k]:=rfl;rw[e]at this;exact this
 simp[By,this]
theorem Kl(h:(b.toNat:Int)<32):FR b=false:=by
 have:¬32<=b.toNat:=by omega
 simp[FR,this]
theorem Rf(h:126<(b.toNat:Int)):FR b=false:=by
 have:¬b.toNat<=126:=by omega
 simp[FR,this]
theorem Ob(h1:32<=(b.toNat:Int))(h2:(b.toNat:Int)<=126):FR b=true:=by
 have e1:32<=b.toNat:=by omega
 have e2:b.toNat<=126:=by omega
 simp[FR,e1,e2]
theorem Jz(s:ByteArray)(most:Int)(w:World)(hn:s.size<=maxLen):
 Calls prog 50 #[.string s,.int .i64 most] w fun e w'=>e= .returned (.bool (By s most))/\w'=w:=by
 unfold maxLen at hn;go_enter func50,ntmps50
 go_wp2;go_loop [5] (fun i=>∃k:Nat,k<=s.size/\i= .int .i64 k/\(∀(j:Nat) (hj:j<s.size),j<k->FR s[j]=true)) (fun i=>s.size-(intOf i).toNat)
 case atStart=>exact⟨0,qy _,rfl,fun j _ hj=>by omega⟩
 case round=>
  obtain⟨k,hk,rfl,hall⟩:=hrel;have HA:Hid (∀(j:Nat) (hj:j<s.size),j<k->FR s[j]=true):=hall;clear hall;by_cases hlt:k<s.size
  ·have hki:(k:Int)<(s.size:Int):=qQ;go_wp2
   ·go_ret;rename_i h1 h2 _;refine⟨Ah (Mc hlt ?_).symm,rfl⟩;rcases h2 with h2|h2
    ·exact Kl h2
    ·exact Rf h2
   ·rename_i h1 h2;go_round;case rel=>
     refine⟨k+1,by omega,by go_num,fun j hj hjk=>?_⟩;by_cases e:j=k
     ·subst e;exact Ob h2.1 h2.2
     ·exact HA.out j hj qQ
    case measure=>simp[intOf];omega
   ·go_ret;rename_i h1;exact⟨Ah (Mc hlt (Kl h1)).symm,rfl⟩
  ·have hki:¬(k:Int)<(s.size:Int):=qQ;go_wp2;go_ret;exact⟨Ah (Rq (fun j hj=>HA j hj qQ)).symm,rfl⟩
theorem bytesWorld_below(w:World)(e:TypeId)(s:ByteArray):Below w w (Lib.bytesWorld w e s):=
 ⟨rfl,rfl,rfl,by rw[Lib.bytesWorld_size];omega,fun k hk=>Lib.bytesWorld_at_old w e s k hk⟩
theorem KG(s:ByteArray)(w:World)(hn:s.size<=maxLen):
 Calls prog 104 #[.string s] w fun e w'=>e= .returned (.bool (By s 40))/\Below w w w':=by
 unfold maxLen at hn;by_cases h40:40<s.size
 ·have h40':(40:Int)<(s.size:Int):=by omega
  go_enter func104,ntmps104
  go_wp2;go_ret;have:¬(s.size:Int)<=40:=by omega
  exact⟨Ah (by simp[By,this]),Below.refl _ _⟩
 ·have h40':(s.size:Int)<=40:=by omega
  have kc:=fun(w:World) (s:ByteArray)=>Lib.run_convert_string_bytes (P:=prog) w 9 22 5 s underlying9 underlying22 underlying5;go_enter func104,ntmps104
  go_wp2_with fail
  have hB:=bytesWorld_below w 5 s;have hcell:∀(j:Nat) (hj:j<s.size),(Lib.bytesWorld w 5 s).cell? ⟨w,j,none⟩=some (.int .u8 (s[j].toNat:Int)):=fun j hj=>by
   rw[Lib.bytesWorld_cell w 5 s j hj];have e:s.data.toList.getD j 0=s[j]:=by
    have hj':j<s.data.toList.length:=(by simpa using hj);rw[List.getD_eq_getElem?_getD,List.getElem?_eq_getElem hj'];rfl
   rw[e]
  generalize Lib.bytesWorld w 5 s=W at *;generalize grownCap w s.size 0 5=cp at *;go_loop [11] (fun i=>∃k:Nat,k<=s.size/\i= .int .i64 k/\(∀(j:Nat) (hj:j<s.size),j<k->FR s[j]=true)) (fun i=>s.size-(intOf i).toNat)
  case atStart=>exact⟨0,qy _,rfl,fun j _ hj=>by omega⟩
  case round=>
   obtain⟨k,hk,rfl,hall⟩:=hrel;have HA:Hid (∀(j:Nat) (hj:j<s.size),j<k->FR s[j]=true):=hall;clear hall;by_cases hlt:k<s.size
   ·have hki:(k:Int)<(s.size:Int):=qQ;have hc:=hcell k hlt;clear hcell;go_wp2
    ·go_ret;rename_i h1 h2 _;refine⟨Ah (Mc hlt ?_).symm,hB⟩;rcases h2 with h2|h2
     ·exact Kl h2
     ·exact Rf h2
    ·rename_i h1 h2;go_round;case rel=>
      refine⟨k+1,by omega,by go_num,fun j hj hjk=>?_⟩;by_cases e:j=k
      ·subst e;exact Ob h2.1 h2.2
      ·exact HA.out j hj qQ
     case measure=>simp[intOf];omega
    ·go_ret;rename_i h1;exact⟨Ah (Mc hlt (Kl h1)).symm,hB⟩
   ·have hki:¬(k:Int)<(s.size:Int):=qQ;clear hcell;go_wp2;go_ret;exact⟨Ah (by rw[Rq (fun j hj=>HA.out j hj qQ)];simpa using h40'),hB⟩
def DV(base:Int)(n:Nat):Bool:=(base==0)&&(n==0)
def fo(kind:Int):Bool:=kind==2||kind==3||kind==4||kind==5||kind==6||kind==7||kind==8||kind==9||kind==10||kind==11||kind==13||kind==15
def fx(kind:Int):Bool:=kind==8
def UG(kind:Int):Bool:=kind==5||kind==14
def QZ(kind:Int):Bool:=kind==6||kind==9
def Mz(kind:Int):Bool:=kind==2||kind==3||kind==4||kind==5||kind==12
def Jt(kind:Int):Bool:=kind==5
def dw(kind:Int):Bool:=kind==1||kind==2||kind==3||kind==4||kind==5||kind==6||kind==7||kind==8||kind==9||kind==10||kind==11||kind==12||kind==13||kind==14||kind==15
def NF(n:Int)(used:Bool):Bool:=if used then Ev n 1 9030 else n==0
def Pt(kind cat:Int)(used:Bool):Bool:=if cat==0 then kind != 14 else used&&Ev cat 1 9999
theorem Kv(base:Int)(a:Option Addr)(n cap:Nat)(w:World)(hn:n<=maxLen):
 Calls prog 106 #[.agg #[.int .i64 base,.slice a n cap]] w fun e w'=>e= .returned (.bool (DV base n))/\Below w w w':=by
 unfold maxLen at hn;have hb0:=Bg w (.cells #[.int .i64 base,.slice a n cap] 42);cases t:(base==0)with
 |true=>
  go_enter func106,ntmps106
  go_wp2;go_ret;refine⟨Ah ?_,hb0⟩;unfold DV;rw[t,Bool.true_and];by_cases e:n=0
  ·subst e;rfl
  ·have e1:(n==0)=false:=(by simpa using e);rw[e1];simp;omega
 |false=>
  go_enter func106,ntmps106
  go_wp2;go_ret;exact⟨Ah (by simp[DV,t]),hb0⟩
variable {n:Nat}
def En(n:Nat)(f:Nat->ByteArray):Bool:=decide (n<=8)&&(qx n).all (fun i=>By (f i) 40)
theorem On{f:Nat->ByteArray}(e:8<n):En n f=false:=by
 have:decide (n<=8)=false:=by simp;omega
 simp[En,this]
theorem QR{k:Nat}{f:Nat->ByteArray}(hk:k<n)(e:By (f k) 40=false):En n f=false:=by
 have:(qx n).all (fun i=>By (f i) 40)=false:=by
  rw[List.all_eq_false];exact⟨k,jG.2 hk,by simp[e]⟩
 simp[En,this]
theorem Ow{f:Nat->ByteArray}(e:∀i,i<n->By (f i) 40=true):En n f=decide (n<=8):=by
 have:(qx n).all (fun i=>By (f i) 40)=true:=by
  rw[kH];intro i hi;exact e i (jG.1 hi)
 simp[En,this]
theorem Wn{f:Nat->ByteArray}(e:En n f=true):n<=8/\∀i,i<n->By (f i) 40=true:=by
 simp only[En,Bool.and_eq_true,decide_eq_true_eq,kH,jG]at e;exact e
theorem UL(a:Option Addr)(n cap:Nat)(f:Nat->ByteArray)(w:World)(hn:n<=maxLen)(hc:JL w a n f)(hz:∀i,i<n->(f i).size<=maxLen):
 Calls prog 105 #[.slice a n cap] w fun e w'=>e= .returned (.bool (En n f))/\Below w w w':=by
 unfold maxLen at hn;have HC:=qC hc;have HZ:=qC hz;clear hc hz;by_cases h8:8<n
 ·have h8':(8:Int)<(n:Int):=by omega
  go_enter func105,ntmps105
  go_wp2;go_ret;exact⟨Ah (On h8).symm,Below.refl _ _⟩
 ·have h8':¬(8:Int)<(n:Int):=by omega
  go_enter func105,ntmps105
  go_wp2;go_loopw [10] (fun i wr=>∃k:Nat,k<=n/\i= .int .i64 k/\Hid (∀j,j<k->By (f j) 40=true)/\Below w w wr) (fun i _=>n-(intOf i).toNat)
  case atStart=>exact⟨0,Nat.zero_le _,rfl,qC (fun j hj=>by omega),Below.refl _ _⟩
  case round=>
   obtain⟨k,hk,rfl,HA,hB⟩:=hrel;by_cases hlt:k<n
   ·obtain⟨b,off,rfl,hlt0,hcc⟩:=HC.out.below hB qQ;have g1:=hcc k hlt;have z:=HZ.out k hlt;have i1:(k:Int)<(n:Int):=qQ;clear hcc;go_wp2_with fail
    refine(KG _ _ z).mono ?_;rintro e w1 ⟨rfl,hb1⟩;have B1:=Af hB hb1;clear g1;by_cases t:By (f k) 40=true
    ·have HA2:Hid (∀j,j<k+1->By (f j) 40=true):=qC (fun j hj=>by
      by_cases e:j=k
      ·subst e;exact t
      ·exact HA.out j qQ)
     go_wp2;exact⟨⟨k+1,by omega,by go_num,HA2,B1⟩,by simp[intOf];omega⟩
    ·have t':By (f k) 40=false:=(by simpa using t);clear t;go_wp2;go_ret;exact⟨Ah (QR hlt t').symm,B1⟩
   ·go_wp2;go_ret;have e:k=n:=qQ;subst e;exact⟨Ah (by rw[Ow HA.out];simp;omega),hB⟩
def Hp(t:Ab):Bool:=
 if t.kind=1 then t.jA.n==0&&(t.own.n==0&&DV t.b2 t.c2.n)
 else if t.kind=2 then t.data.toList.isEmpty&&(t.own.n==0&&DV t.b2 t.c2.n)
 else if t.kind=3 then t.data.toList.isEmpty&&t.jA.n==0&&(t.own.n==0&&DV t.b2 t.c2.n)
 else if t.kind=4 then t.data.toList.isEmpty&&t.jA.n==0
 else false
def CF(t:Ab):Bool:=Bb t.b1 t.c1.n t.c1.f t.c1.g&&Bb t.b2 t.c2.n t.c2.f t.c2.g&&Cf t.own.n t.own.h&&By t.data 40&&En t.jA.n t.jA.f&&Hp t
theorem dI(n:Nat):((n:Int)==0)=(n==0):=by
 by_cases e:n=0
 ·subst e;rfl
 ·have e1:(n==0)=false:=by simpa using e
  rw[e1];simp;omega
theorem Xa(b:Int)(c:As)(w:World)(hc:c.at w):
 Calls prog 102 #[.agg #[.int .i64 b,c.val]] w fun e w'=>e= rT (.bool (Bb b c.n c.f c.g))/\Below w w w':=Eo b c.a c.n c.k c.f c.g w hc.1 hc.2
theorem bZ(c:AJ)(w:World)(hc:c.at w):
 Calls prog 103 #[c.val] w fun e w'=>e= rT (.bool (Cf c.n c.h))/\w'=w:=Ja c.a c.n c.k c.h w hc.1 hc.2
theorem bz(c:AE)(w:World)(hc:c.at w):
 Calls prog 105 #[c.val] w fun e w'=>e= rT (.bool (En c.n c.f))/\Below w w w':=UL c.a c.n c.k c.f w hc.1 hc.2.1 hc.2.2
theorem eF(b:Int)(c:As)(w:World)(hc:c.at w):
 Calls prog 106 #[.agg #[.int .i64 b,c.val]] w fun e w'=>e= rT (.bool (DV b c.n))/\Below w w w':=Kv b c.a c.n c.k w hc.1
theorem SE(t:Ab)(w:World)(ht:t.at w):
 Calls prog 60 #[t.val] w fun e w'=>e= rT (.bool (CF t))/\Below w w w':=by
 have n1:No (.cells #[t.id,t.kind,t.up,t.b1,t.c1.val,.string t.data,t.jA.val,t.own.val,t.b2,t.c2.val] 59):=⟨⟩;have hb0:=(Below.refl _ w).alloc nr n1;have A0:=Ag.new w n1;have T0:=qC (ht.below hb0);unfold Ab.val;obtain⟨x0,x1,x2,x3,x4,x5,x6,x7,x8,x9⟩:=A0.jE;clear ht;go_enter func60,ntmps60
 go_wp2_with fail
 refine(Xa _ t.c1 _ T0.out.1).mono ?_;rintro e w1 ⟨rfl,hb1⟩;have A1:=A0.below hb1;have T1:=qC (T0.out.below hb1);have B1:=Af hb0 hb1;clear x0 x1 x2 x3 x4 x5 x6 x7 x8 x9 A0 T0 hb0 hb1;obtain⟨x0,x1,x2,x3,x4,x5,x6,x7,x8,x9⟩:=A1.jE;cases t1:Bb t.b1 t.c1.n t.c1.f t.c1.g with
 |false=>
  go_wp2;go_ret;exact⟨Ah (by simp[CF,t1]),B1⟩
 |true=>
 go_wp2_with fail
 refine(Xa _ t.c2 _ T1.out.2.2.2.1).mono ?_;rintro e w2 ⟨rfl,hb2⟩;have A2:=A1.below hb2;have T2:=qC (T1.out.below hb2);have B2:=Af B1 hb2;clear x0 x1 x2 x3 x4 x5 x6 x7 x8 x9 A1 T1 B1 hb2;obtain⟨x0,x1,x2,x3,x4,x5,x6,x7,x8,x9⟩:=A2.jE;cases t2:Bb t.b2 t.c2.n t.c2.f t.c2.g with
 |false=>
  go_wp2;go_ret;exact⟨Ah (by simp[CF,t2]),B2⟩
 |true=>
 go_wp2_with fail
 refine(bZ t.own _ T2.out.2.2.1).mono ?_;rintro e w3 ⟨rfl,rfl⟩;cases t3:Cf t.own.n t.own.h with
 |false=>
  go_wp2;go_ret;exact⟨Ah (by simp[CF,t3]),B2⟩
 |true=>
 go_wp2_with fail
 refine(KG t.data _ T2.out.2.2.2.2).mono ?_;rintro e w4 ⟨rfl,hb4⟩;have A4:=A2.below hb4;have T4:=qC (T2.out.below hb4);have B4:=Af B2 hb4;clear x0 x1 x2 x3 x4 x5 x6 x7 x8 x9 A2 T2 B2 hb4;obtain⟨x0,x1,x2,x3,x4,x5,x6,x7,x8,x9⟩:=A4.jE;cases t4:By t.data 40 with
 |false=>
  go_wp2;go_ret;exact⟨Ah (by simp[CF,t4]),B4⟩
 |true=>
 go_wp2_with fail
 refine(bz t.jA _ T4.out.2.1).mono ?_;rintro e w5 ⟨rfl,hb5⟩;have A5:=A4.below hb5;have T5:=qC (T4.out.below hb5);have B5:=Af B4 hb5;clear x0 x1 x2 x3 x4 x5 x6 x7 x8 x9 A4 T4 B4 hb5;obtain⟨x0,x1,x2,x3,x4,x5,x6,x7,x8,x9⟩:=A5.jE;cases t5:En t.jA.n t.jA.f with
 |false=>
  go_wp2;go_ret;exact⟨Ah (by simp[CF,t5]),B5⟩
 |true=>
 have OK:Hid (CF t=Hp t):=qC (by simp[CF,t1,t2,t3,t4,t5]);clear t1 t2 t3 t4 t5;unfold AE.val at x6;go_wp2_with fail
 have hn5:=T5.out.2.1.1;unfold maxLen at hn5;go_quiet(fail)
 unfold AJ.val at x7;have hn6:=T5.out.2.2.1.1;unfold maxLen at hn6;have Z:=qC (eF t.b2 t.c2 _ (T5.out.below (below_drewN (Below.refl _ w5) nq)).2.2.2.1);have B6:=below_drewN B5 nq;go_wp2_with(go_at_call 106;refine Z.out.mono ?_;rintro e w6 ⟨rfl,hb6⟩;have x1':=(hb6.cell (p:=⟨w,1,none⟩) A5.lt).trans x1;have B7:=Af B6 hb6)
 all_goals
  go_ret;refine⟨Ah ?_,by assumption⟩;rw[OK.out];first
  |(simp_all[Hp];done)
  |(simp_all[Hp];exact dI _)
end Go.Proofs.YtdaccbddcjlkpaaGreatDoor
