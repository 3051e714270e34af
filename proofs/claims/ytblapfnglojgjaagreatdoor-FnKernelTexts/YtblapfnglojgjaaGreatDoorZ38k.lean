import Derived.Laws.Pointers
import Derived.Test.YtblapfnglojgjaaGreatDoorRS6k
set_option maxRecDepth 100000
set_option maxHeartbeats 16000000
namespace Go.Proofs.YtblapfnglojgjaaGreatDoor
open Go Go.RowKit Go.Deep Go.Maps
theorem AH.new.past{B P:Nat}{w w':World}{c:AH}(h:c.new B w)(hg:w.grownBy w' (some P))(hP:P<B):c.new B w':=h.of hg.size (fun b e h0=>by
 obtain⟨b',m,F,e',h1,_,hr⟩:=h.2 h0;rw[e]at e';cases e';exact hg.block b hr.lt (fun e=>by have:=Option.some.inj e;omega))
theorem AU.new.past{B P:Nat}{w w':World}{c:AU}(h:c.new B w)(hg:w.grownBy w' (some P))(hP:P<B):c.new B w':=h.of hg.size (fun b e h0=>by
 obtain⟨b',m,F,e',h1,_,hr⟩:=h.2 h0;rw[e]at e';cases e';exact hg.block b hr.lt (fun e=>by have:=Option.some.inj e;omega))
theorem AX.new.past{B P:Nat}{w w':World}{c:AX}(h:c.new B w)(hg:w.grownBy w' (some P))(hP:P<B):c.new B w':=h.of hg.size (fun b e h0=>by
 obtain⟨b',m,F,e',h1,_,hr⟩:=h.2 h0;rw[e]at e';cases e';exact hg.block b hr.lt (fun e=>by have:=Option.some.inj e;omega))
theorem Cf.past{w w':World}{B P:Nat}{vt vo:Value}{lt:List Af}{lo:List Ae}(h:Cf w B vt vo lt lo)(hg:w.grownBy w' (some P))(hP:P<B):Cf w' B vt vo lt lo:=by
 have ne:∀{ty sz n:Nat}{v:Value}{cs:List Value},w.ownsRow B ty sz v n cs->v.ownBlock=none∨v.ownBlock≠some P:=fun{ty sz n v cs} ho=> .inr (fun e=>by have:=(World.ownsRow.lt ho P e).1;omega);exact⟨World.ownsRow.kept h.t hg (ne h.t),World.ownsRow.kept h.o hg (ne h.o),fun x hx=>⟨(h.tn x hx).1.past hg hP,(h.tn x hx).2.1.past hg hP,(h.tn x hx).2.2.past hg hP⟩,fun x hx=>⟨(h.on x hx).1.past hg hP,(h.on x hx).2.1.past hg hP,(h.on x hx).2.2.1.past hg hP,(h.on x hx).2.2.2.past hg hP⟩,h.tc,h.oc⟩
structure Apart(lt:List Af)(lo:List Ae):Prop where
 c:((lt.map Af.cb).flatten++(lo.map Ae.cb).flatten).Nodup
 i:((lt.map fun x=>x.own.bs).flatten++(lo.map fun x=>x.own.bs).flatten).Nodup
 s:((lo.map fun x=>x.jA.bs).flatten).Nodup
theorem Apart.nil:Apart [] []:=⟨by simp,by simp,by simp⟩
theorem Cf.low3{w:World}{B:Nat}{vt vo:Value}{lt:List Af}{lo:List Ae}(h:Cf w B vt vo lt lo):(∀b∈(lt.map Af.cb).flatten++(lo.map Ae.cb).flatten,b<w.heap.size)/\(∀b∈(lt.map fun x=>x.own.bs).flatten++(lo.map fun x=>x.own.bs).flatten,b<w.heap.size)/\(∀b∈(lo.map fun x=>x.jA.bs).flatten,b<w.heap.size):=by
 refine⟨fun b hb=>?_,fun b hb=>?_,fun b hb=>?_⟩
 ·rcases List.mem_append.1 hb with hb|hb
  ·obtain⟨l,hl,hb⟩:=List.mem_flatten.1 hb;obtain⟨x,hx,rfl⟩:=List.mem_map.1 hl;rcases List.mem_append.1 hb with hb|hb
   ·exact((h.tn x hx).1.bs.2 b hb).2
   ·exact((h.tn x hx).2.1.bs.2 b hb).2
  ·obtain⟨l,hl,hb⟩:=List.mem_flatten.1 hb;obtain⟨x,hx,rfl⟩:=List.mem_map.1 hl;rcases List.mem_append.1 hb with hb|hb
   ·exact((h.on x hx).1.bs.2 b hb).2
   ·exact((h.on x hx).2.2.2.bs.2 b hb).2
 ·rcases List.mem_append.1 hb with hb|hb
  ·obtain⟨l,hl,hb⟩:=List.mem_flatten.1 hb;obtain⟨x,hx,rfl⟩:=List.mem_map.1 hl;exact((h.tn x hx).2.2.bs.2 b hb).2
  ·obtain⟨l,hl,hb⟩:=List.mem_flatten.1 hb;obtain⟨x,hx,rfl⟩:=List.mem_map.1 hl;exact((h.on x hx).2.2.1.bs.2 b hb).2
 ·obtain⟨l,hl,hb⟩:=List.mem_flatten.1 hb;obtain⟨x,hx,rfl⟩:=List.mem_map.1 hl;exact((h.on x hx).2.1.bs.2 b hb).2
theorem Apart.addT{w w':World}{B M:Nat}{vt vo:Value}{lt:List Af}(h:Apart lt [])(hk:Cf w B vt vo lt []){x:Af}(hx:x.new M w')(hM:w.heap.size<=M)(hn:x.cb.Nodup):Apart (lt++[x]) []:=by
 obtain⟨k1,k2,_⟩:=hk.low3;refine⟨?_,?_,by simp⟩
 ·have:=Gp (M:=w.heap.size) (l2:=x.cb) (by simpa using h.c) hn (by simpa using k1) (fun b hb=>by
   rcases List.mem_append.1 hb with hb|hb
   ·exact Nat.le_trans hM (hx.1.bs.2 b hb).1
   ·exact Nat.le_trans hM (hx.2.1.bs.2 b hb).1)
  simpa using this
 ·have:=Gp (M:=w.heap.size) (l2:=x.own.bs) (by simpa using h.i) hx.2.2.bs.1 (by simpa using k2) (fun b hb=>Nat.le_trans hM (hx.2.2.bs.2 b hb).1);simpa using this
theorem Apart.addO{w w':World}{B M:Nat}{vt vo:Value}{lt:List Af}{lo:List Ae}(h:Apart lt lo)(hk:Cf w B vt vo lt lo){x:Ae}(hx:x.new M w')(hM:w.heap.size<=M)(hn:x.cb.Nodup):Apart lt (lo++[x]):=by
 obtain⟨k1,k2,k3⟩:=hk.low3;refine⟨?_,?_,?_⟩
 ·have:=Gp (M:=w.heap.size) (l2:=x.cb) h.c hn k1 (fun b hb=>by
   rcases List.mem_append.1 hb with hb|hb
   ·exact Nat.le_trans hM (hx.1.bs.2 b hb).1
   ·exact Nat.le_trans hM (hx.2.2.2.bs.2 b hb).1)
  simpa[List.append_assoc]using this
 ·have:=Gp (M:=w.heap.size) (l2:=x.own.bs) h.i hx.2.2.1.bs.1 k2 (fun b hb=>Nat.le_trans hM (hx.2.2.1.bs.2 b hb).1);simpa[List.append_assoc]using this
 ·have:=Gp (M:=w.heap.size) (l2:=x.jA.bs) h.s hx.2.1.bs.1 k3 (fun b hb=>Nat.le_trans hM (hx.2.1.bs.2 b hb).1);simpa using this
structure Ql(u:TypeId)(pv:Value)(W wr:World)(rb:Nat)(ts:List TD)(os:List OD)(vt vo:Value)(lt:List Af)(lo:List Ae)(Q:List UInt8):Prop where
 st:Cf wr W vt vo lt lo
 lT:lt.length=ts.length
 sT:∀i,i<ts.length->(ts.getD i zT).v.same (Bm lt i)
 lO:lo.length=os.length
 sO:∀i,i<os.length->(os.getD i zO).v.same (Aa lo i)
 dz:∀d∈os,d.data.length<=1048576/\WX d.id/\WX d.up
 ap:Apart lt lo
 z:Ai wr W (.cells #[.slice none 0 0,.slice none 0 0] 27)
 k:Ai wr (W.heap.size+1) (.cells #[vt,vo] 27)
 r:Iy wr rb Q
 e:MR u pv wr
 g:W.grownBy wr (some rb)
section
variable {u:TypeId}{pv:Value}{W wr w':World}{rb:Nat}{ts:List TD}{os:List OD}{vt vo v:Value}{lt:List Af}{lo:List Ae}{Q Q':List UInt8}
theorem Ql.read(h:Ql u pv W wr rb ts os vt vo lt lo Q)(hg:wr.grownBy w' (some rb))(hR:Iy w' rb Q')(hr:rb<W.heap.size)(h0:rb≠0):Ql u pv W w' rb ts os vt vo lt lo Q':=
 ⟨h.st.past hg hr,h.lT,h.sT,h.lO,h.sO,h.dz,h.ap,h.z.grown hg (fun e=>by have:=Option.some.inj e;omega),h.k.grown hg (fun e=>by have:=Option.some.inj e;omega),hR,h.e.grown hg h0,AI h.g hg⟩
theorem Ql.below(h:Ql u pv W wr rb ts os vt vo lt lo Q)(hb:Below wr wr w'):Ql u pv W w' rb ts os vt vo lt lo Q:=
 ⟨h.st.below hb,h.lT,h.sT,h.lO,h.sO,h.dz,h.ap,h.z.below hb,h.k.below hb,h.r.below hb,h.e.below hb,AI h.g (Cm hb _)⟩
theorem Ql.size(h:Ql u pv W wr rb ts os vt vo lt lo Q):W.heap.size+1<wr.heap.size:=h.k.lt
theorem Q7{a b c:World}{row:Option Nat}{B:Nat}{o:Option Nat}(h:a.grownBy b row)(k:b.grownBy c o)(ho:∀j,o=some j->B<=j)(hB:a.heap.size<=B):a.grownBy c row:=
 ⟨k.os.trans h.os,k.tape.trans h.tape,k.output.trans h.output,Nat.le_trans h.size k.size,fun j hj hne=>(k.block j (Nat.lt_of_lt_of_le hj h.size) (fun e=>by have:=ho j (by first|exact e|exact e.symm);omega)).trans (h.block j hj hne)⟩
theorem Ql.addT{x:Af}{d:TD}{M:Nat}{w0:World}(h:Ql u pv W wr rb ts [] vt vo lt [] Q)(h0:Cf w0 W vt vo lt [])(hM:w0.heap.size<=M)(ho:CV w' W v (lt++[x]))(hg:wr.grownBy w' vt.ownBlock)(hx:x.new M wr)(hB:W.heap.size<=M)(hs:d.v.same x)(hc:x.own.n<=x.own.k/\x.own.k<=maxLen)(hn:x.cb.Nodup)(hr:rb<W.heap.size)(hW:0<W.heap.size):
 Ai w' (W.heap.size+1) (.cells #[vt,vo] 27)/\Ql u pv W (w'.setCell ⟨W.heap.size+1,0,none⟩ v) rb (ts++[d]) [] v vo (lt++[x]) [] Q:=by
 obtain⟨k1,kk⟩:=h.st.addT ho hg (hx.low hB) hc;have kb:=kk.blk h.k (by decide) (by decide);have kz:=kk.blk h.z (by decide) (by decide);have kr:Iy w' rb Q:=kk.blk h.r (by decide) (by decide);have low:=FY h.st.t;have e0:w'.heap[0]? =wr.heap[0]?:=hg.block 0 h.e.2 (fun e=>by have:=low 0 (by first|exact e|exact e.symm);omega);refine⟨kb,⟨k1.setK kb v,by simp[h.lT],fun i hi=>?_,h.lO,h.sO,h.dz,h.ap.addT h0 hx hM hn,kz.other (by omega) _,kb.jB (i:=0) v,Ai.other kr (by omega) _,⟨?_,?_⟩,Ey (Q7 h.g hg low nr) (by omega) _ _⟩⟩
 ·by_cases e:i<ts.length
  ·rw[Fp.1 i e,Io.1 i (by rw[h.lT];exact e)];exact h.sT i e
  ·have ei:i=ts.length:=(by simp at hi;omega);rw[ei,Fp.2,<-h.lT,Io.2];exact hs
 ·have e1:(w'.setCell ⟨W.heap.size+1,0,none⟩ v).heap[0]? =w'.heap[0]?:=Below.heap_setCell _ _ _ _ (by show 0≠W.heap.size+1;omega);rw[<-h.e.1];unfold World.cell?;rw[e1,e0]
 ·have:=h.e.2;have:=hg.size;simp only[nblk_setCell];omega
theorem Ql.addO{x:Ae}{d:OD}{M:Nat}{w0:World}(h:Ql u pv W wr rb ts os vt vo lt lo Q)(h0:Cf w0 W vt vo lt lo)(hM:w0.heap.size<=M)(ho:Ba w' W v (lo++[x]))(hg:wr.grownBy w' vo.ownBlock)(hx:x.new M wr)(hB:W.heap.size<=M)(hs:d.v.same x)(hc:x.jA.n<=x.jA.k/\x.jA.k<=maxLen)(hn:x.cb.Nodup)(hd:d.data.length<=1048576/\WX d.id/\WX d.up)(hr:rb<W.heap.size)(hW:0<W.heap.size):
 Ai w' (W.heap.size+1) (.cells #[vt,vo] 27)/\Ql u pv W (w'.setCell ⟨W.heap.size+1,1,none⟩ v) rb ts (os++[d]) vt v lt (lo++[x]) Q:=by
 obtain⟨k1,kk⟩:=h.st.addO ho hg (hx.low hB) hc;have kb:=kk.blk h.k (by decide) (by decide);have kz:=kk.blk h.z (by decide) (by decide);have kr:Iy w' rb Q:=kk.blk h.r (by decide) (by decide);have low:=FY h.st.o;have e0:w'.heap[0]? =wr.heap[0]?:=hg.block 0 h.e.2 (fun e=>by have:=low 0 (by first|exact e|exact e.symm);omega);refine⟨kb,⟨k1.setK kb v,h.lT,h.sT,by simp[h.lO],fun i hi=>?_,fun y hy=>?_,h.ap.addO h0 hx hM hn,kz.other (by omega) _,kb.jB (i:=1) v,Ai.other kr (by omega) _,⟨?_,?_⟩,Ey (Q7 h.g hg low nr) (by omega) _ _⟩⟩
 ·by_cases e:i<os.length
  ·rw[Fp.1 i e,FE.1 i (by rw[h.lO];exact e)];exact h.sO i e
  ·have ei:i=os.length:=(by simp at hi;omega);rw[ei,Fp.2,<-h.lO,FE.2];exact hs
 ·rcases List.mem_append.1 hy with hy|hy
  ·exact h.dz y hy
  ·rw[List.mem_singleton.1 hy];exact hd
 ·have e1:(w'.setCell ⟨W.heap.size+1,1,none⟩ v).heap[0]? =w'.heap[0]?:=Below.heap_setCell _ _ _ _ (by show 0≠W.heap.size+1;omega);rw[<-h.e.1];unfold World.cell?;rw[e1,e0]
 ·have:=h.e.2;have:=hg.size;simp only[nblk_setCell];omega
end
theorem RH:∀(n m:Nat) (ts:List TD) (R:List UInt8),R.length<n->R.length<m->Js n ts R=Js m ts R
 |0,_,_,_,h,_=>by omega
 |_,0,_,_,_,h=>by omega
 |n+1,m+1,ts,R,h1,h2=>by
  rw[Js,Js];cases ht:Bf Gh R with
  |none=>rfl
  |some Q=>
   have:=Fy ht;have:=@Kt Q;simp only;cases hs:JA (Aj (Ak 10 Q).1)with
   |none=>rfl
   |some t=>
    simp only;rw[RH n m _ _ (by omega) (by omega)]
def Xr(ts:List TD)(R:List UInt8):Option (List TD×List UInt8):=Js (R.length+1) ts R
theorem ai{ts:List TD}{R:List UInt8}(h:Bf Gh R=none):Xr ts R=some (ts,R):=by unfold Xr;rw[Js,h]
theorem Zc{ts:List TD}{R Q:List UInt8}(h:Bf Gh R=some Q)(hf:(Ak 10 Q).2.2=false):Xr ts R=none:=by unfold Xr;rw[Js,h];simp[hf]
theorem aI{ts:List TD}{R Q:List UInt8}(h:Bf Gh R=some Q)(hf:(Ak 10 Q).2.2=true)(hs:JA (Aj (Ak 10 Q).1)=none):Xr ts R=none:=by unfold Xr;rw[Js,h];simp[hf,hs]
theorem YO{ts:List TD}{R Q:List UInt8}{t:TD}(h:Bf Gh R=some Q)(hf:(Ak 10 Q).2.2=true)(hs:JA (Aj (Ak 10 Q).1)=some t):Xr ts R=Xr (ts++[t]) (Ak 10 Q).2.1:=by
 have e:Xr ts R=Js R.length (ts++[t]) (Ak 10 Q).2.1:=by
  unfold Xr;rw[Js,h];simp only;rw[if_pos hf,hs]
 rw[e];have:=Fy h;have:=@Kt Q;exact RH _ _ _ _ (by omega) (Nat.lt_succ_self _)
theorem Mq{R:List UInt8}{p:OD×List UInt8}(h:Dg R=some p):p.2.length<R.length:=by
 rw[PI h,List.length_append];have:=ZJ p.1;omega
theorem QA:∀(n m:Nat) (os:List OD) (R:List UInt8),R.length<n->R.length<m->JM n os R=JM m os R
 |0,_,_,_,h,_=>by omega
 |_,0,_,_,_,h=>by omega
 |n+1,m+1,os,R,h1,h2=>by
  rw[JM,JM];cases ht:Dg R with
  |none=>rfl
  |some p=>
   have:=Mq ht;simp only;rw[QA n m _ _ (by omega) (by omega)]
def YY(os:List OD)(R:List UInt8):Option (List OD):=JM (R.length+1) os R
theorem az{os:List OD}:YY os []=some os:=by unfold YY;rw[JM];simp
theorem aF{os:List OD}{R:List UInt8}(h0:R≠[])(h:Dg R=none):YY os R=none:=by unfold YY;rw[JM,if_neg h0,h]
theorem Zx{os:List OD}{R:List UInt8}{p:OD×List UInt8}(h0:R≠[])(h:Dg R=some p):YY os R=YY (os++[p.1]) p.2:=by
 have e:YY os R=JM R.length (os++[p.1]) p.2:=by
  unfold YY;rw[JM,if_neg h0,h]
 rw[e];exact QA _ _ _ _ (Mq h) (Nat.lt_succ_self _)
theorem cE(L:List UInt8):Ie L=match Xr [] L with
 |none=>none
 |some p=>match YY [] p.2 with
  |none=>none
  |some os=>if AW (Dd p.1 os)=true then some (p.1,os)else none:=rfl
theorem YW{R:List UInt8}{p:OD×List UInt8}(h:Dg R=some p):WX p.1.id/\WX p.1.up:=by
 unfold Dg at h;split at h
 ·cases h
 ·split at h
  ·split at h
   ·cases h
   ·rename_i o ho;split at h
    ·cases h
    ·split at h
     ·cases h
     ·have:=Option.some.inj h;subst this;unfold LP at ho;split at ho
      ·have:=Option.some.inj ho;subst this;exact⟨Nr _,Nr _⟩
      ·cases ho
  ·cases h
open Go.BigFrame Go.Shelf Go.Proofs.Tryz
structure bS(W w':World)(ts:List TD)(os:List OD)(ta oa:Option Addr)(ca co:Nat)(lt:List Af)(lo:List Ae):Prop where
 st:Cf w' W (.slice ta lt.length ca) (.slice oa lo.length co) lt lo
 ap:Apart lt lo
 at':(Dm ta ca oa co lt lo).at w'
 same:(Dd ts os).same (Dm ta ca oa co lt lo)
 ln:lt.length<=1048576/\lo.length<=1048576
def du(u:TypeId)(pv:Value)(rb:Nat)(W:World)(L:List UInt8)(e:Ending)(W':World):Prop:=(∃(ts:List TD) (os:List OD) (ta oa:Option Addr) (ca co:Nat) (lt:List Af) (lo:List Ae),Ie L=some (ts,os)/\e= .returned (.agg #[.slice ta lt.length ca,.slice oa lo.length co])/\bS W W' ts os ta oa ca co lt lo/\W.grownBy W' (some rb))∨(Ie L=none/\e=Be u pv/\W.grownBy W' (some rb))
theorem MC(tmps:Array Value)(W:World)(P:Nat)(x y:Value)(h:Ai W P (.cells #[x,y] 27))(h2:tmps[2]? =some (.pointer P)):
 (results Tryz.f18 tmps).run prog W= .ok (.agg #[x,y]) W:=by
 obtain⟨z0,z1⟩:=h.two;simp[results,Tryz.results18,go_sem,h2,z0,z1]
theorem Ql.ker{u:TypeId}{pv:Value}{W wr:World}{rb ca co:Nat}{ts:List TD}{os:List OD}{ta oa:Option Addr}{lt:List Af}{lo:List Ae}{Q:List UInt8}(h:Ql u pv W wr rb ts os (.slice ta lt.length ca) (.slice oa lo.length co) lt lo Q)(h1:lt.length<=1048576)(h2:lo.length<=1048576):(Dm ta ca oa co lt lo).at wr/\(Dd ts os).same (Dm ta ca oa co lt lo)/\(∀x∈lo,x.data.size<=maxLen)/\(Dd ts os).wfs:=by
 have dats:∀x∈lo,x.data.size<=maxLen:=fun x hx=>by
  obtain⟨i,hi,rfl⟩:=List.getElem_of_mem hx;have hi':i<os.length:=by rw[<-h.lO];exact hi
  have s:=h.sO i hi';rw[FT hi]at s;obtain⟨_,_,_,_,_,e,_⟩:=s;rw[e];show(bytesOf (os.getD i zO).data).size<=maxLen;rw[Au];have:=(h.dz (os.getD i zO) (by simp[hi'])).1;unfold maxLen;omega
 refine⟨h.st.at h1 h2 dats,⟨h.lT,fun j hj=>h.sT j hj,h.lO,fun j hj=>h.sO j hj⟩,dats,fun i hi=>?_⟩;have hi':i<os.length:=hi;obtain⟨_,n1,n2⟩:=h.dz (os.getD i zO) (by simp[hi']);have f:∀{x:Int},WX x->(Lit.int .i64 x).wf=true:=fun{x} hx=>by
  have a:=hx.1;have b:=hx.2;have e1:IntKind.i64.min= -9223372036854775808:=rfl;have e2:IntKind.i64.max=9223372036854775807:=rfl;simp only[Lit.wf,Bool.and_eq_true,decide_eq_true_eq,e1,e2];omega
 exact⟨f n1,f n2⟩
theorem Su{ops:Array Oper}{oo:Oper}{a:Act}{w:World}{K:Act->World->Prop}{Q:Exit->Act->World->Prop}{E:Prop}(hgd:oo.guard=none)(s x:Operand)
 (ho:oo.op= .call {callee:= .builtin .append,args:=#[s,x],argTypes:=#[24,24]})
 (B:Nat)(v:Value)(l:List Af)(hs:a.eval s=v)(hown:CV w B v l)(ad:Option Addr)(c:Nat)(y:Af)(hx:a.eval x= .slice ad 1 c)(hc:Bh w ad 1 (Ci [y]))(hn:l.length<=1048576)(hB:B<=w.heap.size)(d:Option Nat)(hd:oo.dst=d)
 (h:∀a' c' w',CV w' B (.slice a' (l.length+1) c') (l++[y])->w.grownBy w' v.ownBlock->K (a.put d (.slice a' (l.length+1) c')) w'):
 if Region.wanted oo (yielded ops a.tmps)=true then Oper.wp prog oo a w K Q else E:=by
 subst hd;exact JD hgd s x ho B v l hs hown ad c y hx hc hn hB h
theorem SQ{ops:Array Oper}{oo:Oper}{a:Act}{w:World}{K:Act->World->Prop}{Q:Exit->Act->World->Prop}{E:Prop}(hgd:oo.guard=none)(s x:Operand)
 (ho:oo.op= .call {callee:= .builtin .append,args:=#[s,x],argTypes:=#[25,25]})
 (B:Nat)(v:Value)(l:List Ae)(hs:a.eval s=v)(hown:Ba w B v l)(ad:Option Addr)(c:Nat)(y:Ae)(hx:a.eval x= .slice ad 1 c)(hc:Bh w ad 1 (AY [y]))(hn:l.length<=1048576)(hB:B<=w.heap.size)(d:Option Nat)(hd:oo.dst=d)
 (h:∀a' c' w',Ba w' B (.slice a' (l.length+1) c') (l++[y])->w.grownBy w' v.ownBlock->K (a.put d (.slice a' (l.length+1) c')) w'):
 if Region.wanted oo (yielded ops a.tmps)=true then Oper.wp prog oo a w K Q else E:=by
 subst hd;exact IW hgd s x ho B v l hs hown ad c y hx hc hn hB h
theorem Wc(u:TypeId)(pv:Value)(rb:Nat)(L:List UInt8)(W:World)(hL:L.length<=500000)(hR:Iy W rb L)(hE:MR u pv W)(h0:rb≠0):
 Calls prog 18 #[.pointer rb] W fun e W'=>du u pv rb W L e W':=by
 have lr:=Ai.lt hR;have W0:0<W.heap.size:=by omega
 have E30:Hid (∀args w,(callFunc 43 args).run prog w= .ok (.enter 43 args) w):=hid (enters_of func43 (by kernel_rfl) rfl);have E31:Hid (∀args w,(callFunc 44 args).run prog w= .ok (.enter 44 args) w):=hid (enters_of func44 (by kernel_rfl) rfl);have E32:Hid (∀args w,(callFunc 45 args).run prog w= .ok (.enter 45 args) w):=hid (enters_of func45 (by kernel_rfl) rfl);have n1:No (.cells #[.slice none 0 0,.slice none 0 0] 27):=⟨⟩;have b0:Below W W ((W.alloc n1).alloc n1):=(CY W _).alloc (by simp) _;have S0:Hid (Ql u pv W ((W.alloc n1).alloc n1) rb [] [] (.slice none 0 0) (.slice none 0 0) [] [] L):=hid ⟨⟨CV.nil _ _,Ba.nil _ _,fun x hx=>absurd hx List.not_mem_nil,fun x hx=>absurd hx List.not_mem_nil,fun x hx=>absurd hx List.not_mem_nil,fun x hx=>absurd hx List.not_mem_nil⟩,rfl,fun i hi=>absurd hi (Nat.not_lt_zero _),rfl,fun i hi=>absurd hi (Nat.not_lt_zero _),fun d hd=>absurd hd List.not_mem_nil,Apart.nil,(Ai.new W n1).alloc _,by simpa using Ai.new (W.alloc n1) n1,hR.below b0,hE.below b0,Cm b0 _⟩;have EQ:=hid (cE L);clear b0 hR hE;go_enter func18,ntmps18
 go_wp2;go_loopw [] (fun wr=>∃(ts:List TD) (Q:List UInt8) (ta:Option Addr) (ca:Nat) (lt:List Af),Ql u pv W wr rb ts [] (.slice ta lt.length ca) (.slice none 0 0) lt [] Q/\Hid (Xr [] L=Xr ts Q)/\Hid (ts.length+Q.length<=L.length)) (fun wr=>YJ wr rb)
 case atStart=>exact⟨[],L,none,0,[],S0,hid rfl,hid (by simp)⟩
 case round=>
  clear S0;obtain⟨ts,Q,ta,ca,lt,hS,HI,HB⟩:=hrel;have S1:=hid hS;clear hS;have T1:=hid (Ke rb Q Gh wr (by decide) S1.out.r);have rn0:Hid (YJ wr rb=Q.length):=hid (MM S1.out.r);have lq:Q.length<=500000:=by have:=HB.out;omega
  have lm1:lt.length<=1048576:=by rw[S1.out.lT];have:=HB.out;omega
  go_wp2_with fail
  refine T1.out.mono ?_;rintro e v1 ⟨rfl,R1,G1⟩;have S2:=hid (S1.out.read G1 R1 lr h0);clear T1 S1 R1 G1;cases ht:Bf Gh Q with
  |some Q2=>
   rw[ht]at S2;have q2:=Fy ht;have p1:=Cs 10 Q2;have p2:=Dc 10 Q2;have n4:Nv (.slice ta lt.length ca):=⟨⟩;have S3:Hid (Ql u pv W v1 rb ts [] n4 (.slice none 0 0) lt [] Q2):=S2;have HT:=hid ht;clear S2 ht;go_wp2_with fail
   refine Av 8 (fun w=>Ai w (W.heap.size+1) (.cells #[.slice ta lt.length ca,.slice none 0 0] 27)) (by kernel_rfl) ?_;have D3:=hid (S3.out.below ((Below.refl _ v1).drew));clear S3;generalize v1.drew=v2 at *;refine tr 0 6 (.pointer (some ⟨W.heap.size+1,0,none⟩)) D3.out.k ?_;refine tr 1 7 n4 D3.out.k ?_ (hy:=fun w h=>by obtain⟨z0,z1⟩:=h.two;go_simp);refine tr 2 8 (.pointer rb) D3.out.k ?_;refine Ab (i:=3) (by kernel_rfl) rfl ?_;intro K hK;refine Iv (by rfl) 43 _ _ (by rfl) E30 _ (by rfl) (some 9) (by rfl) (fun v w'=>(Ak 10 Q2).2.2=true/\∃lb,v= .pointer (some ⟨lb,0,none⟩)/\v2.heap.size<=lb/\Iy w' lb ((Ak 10 Q2).1++[32])/\Iy w' rb (Ak 10 Q2).2.1/\v2.grownBy w' (some rb)) (fun c w'=>(Ak 10 Q2).2.2=false/\Be u pv= .panicked c/\v2.grownBy w' (some rb)) ((QX u pv rb Q2 v2 (by omega) D3.out.r D3.out.e).mono fun e w' h=>?_) ?_ ?_
   ·rcases h with⟨h1,lb,h2,h3⟩|⟨h1,h2,h3⟩
    ·exact Or.inl ⟨_,h2,h1,lb,rfl,h3⟩
    ·exact Or.inr ⟨_,h2,h1,rfl,h3⟩
   rotate_left
   ·rintro c w' ⟨h1,h2,h3⟩;have eo:Ie L=none:=(by rw[EQ.out,HI.out,Zc HT.out h1]);unfold Be at h2;cases h2;exact⟨rfl,Or.inr ⟨eo,rfl,AI D3.out.g h3⟩⟩
   rintro v v3 ⟨hf,lb,rfl,hlb,Rl,R3,G3⟩;have S4:=hid (D3.out.read G3 R3 lr h0);have K0:=hid D3.out.st;have sz2:=D3.out.size;have sv3:=G3.size;rw[Lx]at Rl;have RL:=hid Rl;have HF:=hid hf;have GG3:=hid G3;have RB3:=hid R3;refine hK _ _ (fun _=>S4.out.k) ?_;clear hK K R3 G3 Rl hf;simp only[ap,List.set];have HN:=hid (Tx (Ak 10 Q2).1);have jl:(jn (Aj (Ak 10 Q2).1)).length<=1048576:=(by rw[<-Lx];simp;omega);refine Ab (i:=4) (by kernel_rfl) rfl ?_;intro K hK;refine Iv (by rfl) 44 _ _ (by rfl) E31 _ (by rfl) (some 10) (by rfl) (fun v w'=>∃(d:TD) (x:Af),JA (Aj (Ak 10 Q2).1)=some d/\v=x.val/\d.v.same x/\x.new v3 w'/\(x.own.n<=x.own.k/\x.own.k<=maxLen)/\x.cb.Nodup/\v3.grownBy w' (some lb)) (fun c w'=>JA (Aj (Ak 10 Q2).1)=none/\Be u pv= .panicked c/\v3.grownBy w' (some lb)) ((VQ u pv lb _ v3 jl HN RL S4.out.e (by omega)).mono fun e w' h=>?_) ?_ ?_
   ·rcases h with⟨d,x,h1,h2,h3⟩|⟨h1,h2,h3⟩
    ·exact Or.inl ⟨_,h2,d,x,h1,rfl,h3⟩
    ·exact Or.inr ⟨_,h2,h1,rfl,h3⟩
   rotate_left
   ·rintro c w' ⟨h1,h2,h3⟩;have eo:Ie L=none:=(by rw[EQ.out,HI.out,aI HT.out HF.out h1]);unfold Be at h2;cases h2;exact⟨rfl,Or.inr ⟨eo,rfl,Dq S4.out.g h3 (by omega)⟩⟩
   rintro v v4 ⟨d,x,hs,rfl,hsm,hnew,hroom,hnd,G4⟩;have S5:=hid (D3.out.read (Dq GG3 G4 hlb) (RB3.out.grown G4 (by omega)) lr h0);have HI2:=hid (HI.out.trans (YO HT HF hs));have sv4:=G4.size;refine hK _ _ (fun _=>S5.out.k) ?_;clear hK K S4 G4 RL HN jl HF HT HI hs D3 GG3 RB3;unfold Af.val AH.val AU.val;simp only[ap,List.set];refine Ab (i:=5) (by kernel_rfl) rfl ?_;intro K hK;have n3:No (.cells x 47):=⟨⟩;have bb:=(Below.refl _ v4).alloc nr n3;have S6:=hid (S5.out.below bb);have X6:=hid (hnew.keeps (CN.of_below bb).l);have ONE:=hid (CV.one v4 x);unfold AH.val AU.val at ONE;go_simp;refine hK _ _ (fun _=>S6.out.k) ?_;clear hK K S5 bb hnew;try simp only[ap,List.set]
   generalize v4.alloc n3=v5 at *;refine Ab (i:=6) (by kernel_rfl) rfl ?_;intro K hK;refine Su (by rfl) _ _ (by rfl) W n4 lt (by rfl) S6.out.st.t _ 1 x (by rfl) ONE lm1 S6.out.g.size (some 12) (by rfl) ?_;intro a9 c9 v6 O9 G9;have AD:=S6.out.addT (d:=d) K0 sv3 O9 G9 X6 (by omega) hsm hroom hnd lr W0;have B9:=hid AD.1;have S8:=hid AD.2;refine hK _ _ (fun _=>B9) ?_;clear hK K S6 AD O9 G9 ONE X6;simp only[ap,List.set];refine Ab (i:=7) (by kernel_rfl) rfl ?_;intro K hK;go_simp;refine hK _ _ (fun _=>B9) ?_;clear hK K;try simp only[ap,List.set]
   refine Ab (i:=8) (by kernel_rfl) rfl ?_;intro K hK;have wf:=B9.out.jC;obtain⟨z0,z1⟩:=B9.out.two;go_simp;refine hK _ _ (fun h=>absurd h (by decide)) ?_;clear hK K;refine Ao (by kernel_rfl) ?_ _;have rn1:Hid (YJ (v6.setCell ⟨W.heap.size+1,0,none⟩ (.slice a9 (lt.length+1) c9)) rb=(Ak 10 Q2).2.1.length):=hid (MM S8.out.r);clear z0 z1 wf B9;go_wp2;exact⟨⟨ts++[d],(Ak 10 Q2).2.1,a9,c9,lt++[x],by rw[List.length_append];exact S8.out,HI2,hid (by have:=HB.out;simp;omega)⟩,by rw[rn1.out,rn0.out];omega⟩
  |none=>
   rw[ht]at S2;have S3:Hid (Ql u pv W v1 rb ts [] (.slice ta lt.length ca) (.slice none 0 0) lt [] Q):=S2;rw[HI.out,ai ht]at EQ;clear S2 ht HI rn0;go_wp2;go_loopw [] (fun wr=>∃(os:List OD) (Q4:List UInt8) (oa:Option Addr) (co:Nat) (lo:List Ae),Ql u pv W wr rb ts os (.slice ta lt.length ca) (.slice oa lo.length co) lt lo Q4/\Hid (YY [] Q=YY os Q4)/\Hid (os.length+Q4.length<=L.length)) (fun wr=>YJ wr rb)
   case atStart=>exact⟨[],Q,none,0,[],S3,hid rfl,hid (by have:=HB.out;simp;omega)⟩
   case round=>
    clear S3;obtain⟨os,Q4,oa,co,lo,hS,HI,HB4⟩:=hrel;have S4:=hid hS;clear hS;have rn0:Hid (YJ wr rb=Q4.length):=hid (MM S4.out.r);have c1:=Ai.one S4.out.r;have lq4:Q4.length<=500000:=(by have:=HB4.out;omega);have lm2:lo.length<=1048576:=(by rw[S4.out.lO];have:=HB4.out;omega);by_cases hq:Q4=[]
    ·subst hq;have e0:(bytesOf []).toList.isEmpty=true:=(by rw[Pk];rfl);have KK:=hid (S4.out.ker lm1 lm2);rw[HI.out,az]at EQ;obtain⟨k0,k1⟩:=S4.out.k.two;have CK:=hid (JZ (Dm ta ca oa co lt lo) wr KK.out.1 (FN S4.out.st.o).1 (KK.out.2.1.wfs KK.out.2.2.2));rw[Du KK.out.2.1]at CK;unfold AJ.val Dm at CK;clear HI rn0;go_wp2_with fail
     refine CK.out.mono ?_;rintro e v3 ⟨rfl,hb3⟩;have S5:=hid (S4.out.below hb3);clear CK S4 c1 k0 k1 hb3;cases hk:AW (Dd ts os)with
     |false=>
      have eo:Ie L=none:=(by rw[EQ.out];simp[hk]);go_wp2_with(go_at_call 46;refine(Km u pv _ S5.out.e).mono ?_;rintro e v4 ⟨rfl,rfl⟩;unfold Be)
      exact⟨rfl,Or.inr ⟨eo,rfl,S5.out.g⟩⟩
     |true=>
      have eo:Hid (Ie L=some (ts,os)):=hid (by rw[EQ.out];simp[hk]);have zz:=S5.out.z;have wf:=zz.jC;obtain⟨y0,y1⟩:=zz.two;obtain⟨k0,k1⟩:=S5.out.k.two;have Z2:=hid ((zz.jB (i:=0) (.slice ta lt.length ca)).jB (i:=1) (.slice oa lo.length co));have K2:=hid ((S5.out.st.setK (i:=0) zz (.slice ta lt.length ca)).setK (i:=1) (zz.jB (i:=0) (.slice ta lt.length ca)) (.slice oa lo.length co));clear EQ hk;go_wp2_with(go_at_call 46;refine(Jb _).mono ?_;rintro e v4 ⟨rfl,rfl⟩)
      exact bodyPost_ret (MC _ _ W _ _ Z2 rfl) rfl (Or.inl ⟨ts,os,ta,oa,ca,co,lt,lo,eo,rfl,⟨K2,S5.out.ap,K2.out.at lm1 lm2 KK.out.2.2.1,KK.out.2.1,⟨lm1,lm2⟩⟩,Ey (Ey S5.out.g nr _ _) nr _ _⟩)
    ·have e0:(bytesOf Q4).toList.isEmpty=false:=(by rw[Pk];exact decide_eq_false hq);have HQ:=hid hq;clear hq;go_wp2_with fail
     refine Av 7 (fun w=>Ai w (W.heap.size+1) (.cells #[.slice ta lt.length ca,.slice oa lo.length co] 27)) (by kernel_rfl) ?_;have D3:=hid (S4.out.below ((Below.refl _ wr).drew));clear S4 c1;generalize wr.drew=v2 at *;refine tr 0 19 (.pointer (some ⟨W.heap.size+1,1,none⟩)) D3.out.k ?_;refine tr 1 20 (.slice oa lo.length co) D3.out.k ?_ (hy:=fun w h=>by obtain⟨z0,z1⟩:=h.two;go_simp);refine tr 2 21 (.pointer rb) D3.out.k ?_;refine Ab (i:=3) (by kernel_rfl) rfl ?_;intro K hK;refine Iv (by rfl) 45 _ _ (by rfl) E32 _ (by rfl) (some 22) (by rfl) (fun v w'=>∃(d:OD) (q:List UInt8) (x:Ae),Dg Q4=some (d,q)/\v=x.val/\d.v.same x/\x.new v2 w'/\(x.jA.n<=x.jA.k/\x.jA.k<=maxLen)/\x.cb.Nodup/\d.data.length<=1048576/\Iy w' rb q/\v2.grownBy w' (some rb)) (fun c w'=>Dg Q4=none/\Be u pv= .panicked c/\v2.grownBy w' (some rb)) ((VA u pv rb Q4 v2 (by omega) D3.out.r D3.out.e h0).mono fun e w' h=>?_) ?_ ?_
     ·rcases h with⟨d,q,x,h1,h2,h3⟩|⟨h1,h2,h3⟩
      ·exact Or.inl ⟨_,h2,d,q,x,h1,rfl,h3⟩
      ·exact Or.inr ⟨_,h2,h1,rfl,h3⟩
     rotate_left
     ·rintro c w' ⟨h1,h2,h3⟩;have eo:Ie L=none:=(by rw[EQ.out,HI.out,aF HQ.out h1]);unfold Be at h2;cases h2;exact⟨rfl,Or.inr ⟨eo,rfl,AI D3.out.g h3⟩⟩
     rintro v v4 ⟨d,q,x,hs,rfl,hsm,hnew,hroom,hnd,hdz,R4,G4⟩;have S5:=hid (D3.out.read G4 R4 lr h0);have HI2:=hid (HI.out.trans (Zx HQ hs));have sl:=Mq hs;have din:=YW hs;have K0:=hid D3.out.st;have sz2:=D3.out.size;refine hK _ _ (fun _=>S5.out.k) ?_;clear hK K D3 G4 R4 HI hs HQ;simp only at HI2 sl din;unfold Ae.val AH.val AU.val AX.val;simp only[ap,List.set];refine Ab (i:=4) (by kernel_rfl) rfl ?_;intro K hK;have n2:No (.cells x 51):=⟨⟩;have bb:=(Below.refl _ v4).alloc nr n2;have S6:=hid (S5.out.below bb);have X6:=hid (hnew.keeps (CN.of_below bb).l);have ONE:=hid (Ba.one v4 x);unfold AH.val AU.val AX.val at ONE;go_simp;refine hK _ _ (fun _=>S6.out.k) ?_;clear hK K S5 bb hnew;try simp only[ap,List.set]
     generalize v4.alloc n2=v5 at *;refine Ab (i:=5) (by kernel_rfl) rfl ?_;intro K hK;refine SQ (by rfl) _ _ (by rfl) W (.slice oa lo.length co) lo (by rfl) S6.out.st.o _ 1 x (by rfl) ONE lm2 S6.out.g.size (some 24) (by rfl) ?_;intro a9 c9 v6 O9 G9;have AD:=S6.out.addO (d:=d) K0 nr O9 G9 X6 (by omega) hsm hroom hnd ⟨hdz,din⟩ lr W0;have B9:=hid AD.1;have S8:=hid AD.2;refine hK _ _ (fun _=>B9) ?_;clear hK K S6 AD O9 G9 ONE X6;simp only[ap,List.set];refine Ab (i:=6) (by kernel_rfl) rfl ?_;intro K hK;go_simp;refine hK _ _ (fun _=>B9) ?_;clear hK K;try simp only[ap,List.set]
     refine Ab (i:=7) (by kernel_rfl) rfl ?_;intro K hK;have wf:=B9.out.jC;obtain⟨z0,z1⟩:=B9.out.two;go_simp;refine hK _ _ (fun h=>absurd h (by decide)) ?_;clear hK K;refine Ao (by kernel_rfl) ?_ _;have rn1:Hid (YJ (v6.setCell ⟨W.heap.size+1,1,none⟩ (.slice a9 (lo.length+1) c9)) rb=q.length):=hid (MM S8.out.r);clear z0 z1 wf B9;go_wp2;exact⟨⟨os++[d],q,a9,c9,lo++[x],by rw[List.length_append];exact S8.out,HI2,hid (by have:=HB4.out;simp;omega)⟩,by rw[rn1.out,rn0.out];omega⟩
variable {lt:List Af}{lo:List Ae}
theorem Nk(p:Addr)(b:Bool)(u:TypeId)(pv:Value)(older:List PanicEntry)(w:World)(hc:w.cell? p=some (.bool b))(hz:w.frozen? p=false):
 CallsD prog 41 #[.pointer (some p)] (.panicking ({v:= .iface u pv,recovered:=false}::older)) w fun e u' w'=>
  e= .returned (.tuple #[])/\u'= .panicking ({v:= .iface u pv,recovered:=true}::older)/\w'=w.setCell p (.bool false):=by
 refine callsD_of_wpS func41 rfl fun c₀ cs hu=>?_;apply wpS_region;simp[wpOpsS,go_sem,recoverD,hu,ntmps41,hc,hz,bodyPostS,results,Tryz.results41]
theorem U5(p:Addr)(b:Bool)(w:World)(hc:w.cell? p=some (.bool b))(hz:w.frozen? p=false):
 CallsD prog 41 #[.pointer (some p)] .returning w fun e u' w'=>e= .returned (.tuple #[])/\u'= .returning/\w'=w.setCell p (.bool true):=by
 refine callsD_of_wpS func41 rfl fun c₀ cs hu=>?_;apply wpS_region;simp[wpOpsS,go_sem,recoverD,hu,ntmps41,hc,hz,bodyPostS,results,Tryz.results41];cases c₀;simp_all
theorem MD(tmps:Array Value)(W:World)(P Q:Nat)(b:Bool)(x y:Value)(h:Ai W P (.cells #[x,y] 27))(hq:Ai W Q (.cells #[.bool b] 4))(h2:tmps[4]? =some (.pointer P))(h3:tmps[5]? =some (.pointer Q)):
 (results Tryz.f17 tmps).run prog W= .ok (.tuple #[.agg #[x,y],.bool b]) W:=by
 obtain⟨z0,z1⟩:=h.two;have y:=hq.one;simp[results,Tryz.results17,go_sem,h2,h3,z0,z1,y]
theorem Cf.setB{w:World}{B P i:Nat}{vt vo:Value}{cs:Array Value}(h:Cf w B vt vo lt lo)(hb:Ai w P (.cells cs 4))(u:Value):Cf (w.setCell ⟨P,i,none⟩ u) B vt vo lt lo:=by
 have k:=Aw (i:=i) hb (by decide) u;exact⟨h.t.set hb (by decide) u,h.o.set hb (by decide) u,fun x hx=>(h.tn x hx).keeps k,fun x hx=>(h.on x hx).keeps k,h.tc,h.oc⟩
def FQ(r:Option (List TD×List OD))(w:World)(e:Ending)(w':World):Prop:=match r with
 |none=>e= .returned (.tuple #[.agg #[.slice none 0 0,.slice none 0 0],.bool false])/\Below w w w'
 |some p=>∃(ta oa:Option Addr) (ca co:Nat) (lt:List Af) (lo:List Ae),e= .returned (.tuple #[.agg #[.slice ta lt.length ca,.slice oa lo.length co],.bool true])/\Cf w' w (.slice ta lt.length ca) (.slice oa lo.length co) lt lo/\Apart lt lo/\(∀x∈lo,x.data.size<=maxLen)/\lt.length<=1048576/\lo.length<=1048576/\(Dd p.1 p.2).same (Dm ta ca oa co lt lo)/\Below w w w'
def ZW:Obj:= .cells #[.slice none 0 0,.slice none 0 0] 27
theorem bS.dats{W w':World}{ts:List TD}{os:List OD}{ta oa:Option Addr}{ca co:Nat}(h:bS W w' ts os ta oa ca co lt lo):∀x∈lo,x.data.size<=maxLen:=fun x hx=>by
 obtain⟨i,hi,rfl⟩:=List.getElem_of_mem hx;obtain⟨b,off,e,_,hc⟩:=h.at'.2.2.2 (show 0<lo.length from by omega);have:=(hc i hi).2.2.2.2.2;have e2:(Dm ta ca oa co lt lo).O i=lo[i]:=FT hi;rw[e2]at this;exact this
theorem VY(u:TypeId)(pv:Value)(L:List UInt8)(w:World)(hL:L.length<=500000)(hE:MR u pv w):
 Calls prog 17 #[.string (bytesOf L),.func (.func 18) #[] #[]] w fun e w'=>FQ (Ie L) w e w':=by
 have hmf:∀(fn:Fn) (first cap:Array Value) (w:World),(Instr.makeFunc fn first cap).run prog w= .ok (.func fn first cap) w:=fun _ _ _ _=>rfl;have n1:No (.cells #[.string (bytesOf L)] 85):=⟨⟩;have n2:No (.cells #[.bool false] 4):=⟨⟩;have Z:=hid (((Ai.new w ZW).alloc n2).alloc n1);have Y:=hid ((Ai.new (w.alloc ZW) n2).alloc n1);have B:=hid ((((Below.refl _ w).alloc nr ZW).alloc (by simp) n2).alloc (by simp;omega) n1);have RD:Hid (Iy (((w.alloc ZW).alloc n2).alloc n1) (w.heap.size+1+1) L):=hid (by
  have:=Ai.new ((w.alloc ZW).alloc n2) n1;unfold Iy;simpa using this)
 have ST:=hid (Wc u pv _ L _ hL RD (hE.below B) (by omega));have ne0:w.heap.size+1≠w.heap.size:=by omega
 have ne1:w.heap.size≠w.heap.size+1:=by omega
 have sz:(((w.alloc ZW).alloc n2).alloc n1).heap.size=w.heap.size+3:=by simp
 unfold ZW at *;go_enter_defers func17,ntmps17
 go_wp2_with fail
 refine ST.out.mono ?_;rintro e w1 (⟨ts,os,ta,oa,ca,co,lt,lo,er,rfl,hK,hG⟩|⟨er,rfl,hG⟩)
 ·have Z1:=hid (Z.out.grown hG (fun e=>by have:=Option.some.inj e;omega));have Y1:Hid (Ai w1 (w.heap.size+1) n2):=hid (by
   have:=Y.out.grown hG (fun e=>by have:=Option.some.inj e;simp at this);simpa using this)
  have B1:=hid (B.out.trans (below_grown hG (by rw[sz];omega) (fun j e=>by have:=Option.some.inj e;omega)));have HK:=hid hK;have ER:=hid er;clear ST RD Z Y B hK hG er;obtain⟨z0,z1⟩:=Z1.out.two;have g0:=Z1.out.jC;have y0:=Y1.out.one;have g1:=Y1.out.jC;go_wp2;refine leaves_cons (f:=41) (args:=#[.pointer (some ⟨w.heap.size+1,0,none⟩)]) (by simp) (by simp[go_sem]) ?_;have n3:Nv (.slice ta lt.length ca):=⟨⟩;have n4:Nv (.slice oa lo.length co):=⟨⟩;have Z2:=hid ((Z1.out.jB (i:=0) n3).jB (i:=1) n4);have Y2:=hid ((Y1.out.other (i:=0) ne1 n3).other (i:=1) ne1 n4);have K2:=hid ((HK.out.st.setK (i:=0) Z1 n3).setK (i:=1) (Z1.out.jB (i:=0) n3) n4);have ZV:=hid ((Z2.out.other (i:=0) ne0 (.bool true)).other (i:=0) ne0 (.bool true));have YV:Hid (Ai _ (w.heap.size+1) (.cells #[.bool true] 4)):=hid (Y2.out.jB (i:=0) (.bool true));have KV:=hid ((K2.out.setB (i:=0) Y2 (.bool true)).setB (i:=0) YV (.bool true));have yc:=YV.out.one;have yf:=YV.out.jC 0;refine(U5 ⟨w.heap.size+1,0,none⟩ true _ yc yf).mono ?_;rintro e u' w'' ⟨rfl,rfl,rfl⟩;refine⟨_,MD _ _ w (w.heap.size+1) true _ _ ZV (YV.out.jB (i:=0) (.bool true)) rfl rfl,?_⟩;show FQ (Ie L) w _ _;rw[ER.out];exact⟨ta,oa,ca,co,lt,lo,rfl,KV.out.base (by rw[sz];omega),HK.out.ap,HK.out.dats,HK.out.ln.1,HK.out.ln.2,HK.out.same,(((B1.out.setCell nr _).setCell nr _).setCell (Nat.le_succ _) _).setCell (Nat.le_succ _) _⟩
 ·have Z1:=hid (Z.out.grown hG (fun e=>by have:=Option.some.inj e;omega));have Y1:Hid (Ai w1 (w.heap.size+1) n2):=hid (by
   have:=Y.out.grown hG (fun e=>by have:=Option.some.inj e;simp at this);simpa using this)
  have B1:=hid (B.out.trans (below_grown hG (by rw[sz];omega) (fun j e=>by have:=Option.some.inj e;omega)));have ER:=hid er;clear ST RD Z Y B hG er;have yc:=Y1.out.one;have yf:=Y1.out.jC 0;unfold Be;go_wp2;refine leaves_cons (f:=41) (args:=#[.pointer (some ⟨w.heap.size+1,0,none⟩)]) (by simp) (by simp[go_sem]) ?_;refine(Nk ⟨w.heap.size+1,0,none⟩ false u pv [] _ yc yf).mono ?_;rintro e u' w'' ⟨rfl,rfl,rfl⟩;refine⟨_,MD _ _ w (w.heap.size+1) false _ _ (Z1.out.other (i:=0) ne0 (.bool false)) (Y1.out.jB (i:=0) (.bool false)) rfl rfl,?_⟩;show FQ (Ie L) w _ _;rw[ER.out];exact⟨rfl,B1.out.setCell (Nat.le_succ _) _⟩
theorem Mp(tmps:Array Value)(W:World)(P:Nat)(b:Bool)(x y:Value)(h:Ai W P (.cells #[x,y] 27))(h2:tmps[2]? =some (.pointer P))(h3:tmps[3]? =some (.bool b)):
 (results Tryz.f7 tmps).run prog W= .ok (.tuple #[.agg #[x,y],.bool b]) W:=by
 obtain⟨z0,z1⟩:=h.two;simp[results,Tryz.results7,go_sem,h2,h3,z0,z1]
def GQ(L:List UInt8):Option (List TD×List OD):=if L.length<=500000 then Ie L else none
theorem Ft(u:TypeId)(pv:Value)(L:List UInt8)(w:World)(hE:MR u pv w)(hl:L.length<=1048576):
 Calls prog 7 #[.string (bytesOf L)] w fun e w'=>FQ (GQ L) w e w':=by
 have b0:=(Below.refl _ w).alloc nr ZW;have Z:=hid (Ai.new w ZW);have B:=hid b0;have E0:=hid (hE.below b0);have s1:=Au L;clear hE b0;unfold ZW at *;by_cases hL:L.length<=500000
 ·have er:Hid (GQ L=Ie L):=hid (by unfold GQ;rw[if_pos hL]);have i5:¬(500000:Int)<((bytesOf L).size:Int):=by rw[s1];omega
  have ST:=hid (VY u pv L _ hL E0);clear s1;go_enter func7,ntmps7
  go_wp2_with fail
  refine ST.out.mono ?_;cases hr:Ie L with
  |none=>
   rintro e w1 ⟨rfl,hb⟩;have Z1:=hid (Z.out.below hb);have B1:=hid (Ac B hb);have ER:=hid (er.out.trans hr);clear ST Z B E0 hb hr er;obtain⟨z0,z1⟩:=Z1.out.two;have g0:=Z1.out.jC;go_wp2;refine bodyPost_ret (Mp _ _ w false (.slice none 0 0) (.slice none 0 0) ((Z1.out.jB (i:=0) _).jB (i:=1) _) rfl rfl) rfl ?_;show FQ (GQ L) w _ _;rw[ER.out];exact⟨rfl,(B1.out.setCell nr _).setCell nr _⟩
  |some p=>
   rintro e w1 ⟨ta,oa,ca,co,lt,lo,rfl,hK,hA,hD,n1,n2,hS,hb⟩;have Z1:=hid (Z.out.below hb);have B1:=hid (Ac B hb);have ER:=hid (er.out.trans hr);have HK:=hid hK;clear ST Z B E0 hb hr er hK;obtain⟨z0,z1⟩:=Z1.out.two;have g0:=Z1.out.jC;have n3:Nv (.slice ta lt.length ca):=⟨⟩;have n4:Nv (.slice oa lo.length co):=⟨⟩;have K2:=hid ((HK.out.setK (i:=0) Z1 n3).setK (i:=1) (Z1.out.jB (i:=0) n3) n4);have Z2:=hid ((Z1.out.jB (i:=0) n3).jB (i:=1) n4);go_wp2;refine bodyPost_ret (Mp _ _ w true n3 n4 Z2 rfl rfl) rfl ?_;show FQ (GQ L) w _ _;rw[ER.out];exact⟨ta,oa,ca,co,lt,lo,rfl,K2.out.base (by simp),hA,hD,n1,n2,hS,(B1.out.setCell nr _).setCell nr _⟩
 ·have er:Hid (GQ L=none):=hid (by unfold GQ;rw[if_neg hL]);have i5:(500000:Int)<((bytesOf L).size:Int):=by rw[s1];omega
  have zz:=Z.out;obtain⟨z0,z1⟩:=zz.two;have g0:=zz.jC;clear s1;go_enter func7,ntmps7
  go_wp2;refine bodyPost_ret (Mp _ _ w false (.slice none 0 0) (.slice none 0 0) Z rfl rfl) rfl ?_;show FQ (GQ L) w _ _;rw[er.out];exact⟨rfl,B⟩
end Go.Proofs.YtblapfnglojgjaaGreatDoor
