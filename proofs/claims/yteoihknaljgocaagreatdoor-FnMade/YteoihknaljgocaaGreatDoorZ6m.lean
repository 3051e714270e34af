import Derived.Test.YteoihknaljgocaaGreatDoorZ5m
set_option maxRecDepth 100000
set_option maxHeartbeats 16000000
namespace Go.Proofs.YteoihknaljgocaaGreatDoor
open Go Go.RowKit Go.Deep Go.Maps
variable {w w':World}{P t B B' i:Nat}{c:AJ}{v vt vo:Value}{lt:List Ae}{lo:List Ab}
structure Da(w w':World):Prop where
 size:w.heap.size<=w'.heap.size
 block:∀(k:Nat) (cs:Array Value) (t:TypeId),w.heap[k]? =some (Obj.cells cs t (0,0))->t≠39->t≠44->w'.heap[k]? =w.heap[k]?
theorem Da.blk{cs:Array Value}(h:Da w w')(hb:Ag w P (.cells cs t))(h1:t≠39)(h2:t≠44):Ag w' P (.cells cs t):=(h.block P cs t hb h1 h2).trans hb
theorem Da.of_below(h:Below w w w'):Da w w':=⟨h.size,fun k _ _ hk _ _=>h.block k (Array.getElem?_eq_some_iff.1 hk).1⟩
theorem Ko{b ty m:Nat}{F:Nat->Value}(hr:w.rowIs b ty m F):∃cs,w.heap[b]? =some (.cells cs ty (0,0)):=by
 obtain⟨c,h1,_⟩:=hr;exact⟨c,h1⟩
theorem AJ.new.over(h:c.new B w)(hs:w.heap.size<=w'.heap.size)(hb:∀b m F,w.rowIs b 2 m F->w'.heap[b]? =w.heap[b]?):c.new B w':=h.of hs (fun b e hn=>by
 obtain⟨b',m,F,e',_,_,hr⟩:=h.2 hn;rw[e]at e';cases e';exact hb b m F hr)
theorem AH.new.over{c:AH}(h:c.new B w)(hs:w.heap.size<=w'.heap.size)(hb:∀b m F,w.rowIs b 9 m F->w'.heap[b]? =w.heap[b]?):c.new B w':=h.of hs (fun b e hn=>by
 obtain⟨b',m,F,e',_,_,hr⟩:=h.2 hn;rw[e]at e';cases e';exact hb b m F hr)
structure En(w w':World):Prop where
 size:w.heap.size<=w'.heap.size
 block:∀(k:Nat) (cs:Array Value) (t:TypeId),w.heap[k]? =some (Obj.cells cs t (0,0))->t=78∨t=2∨t=9->w'.heap[k]? =w.heap[k]?
theorem Da.l(h:Da w w'):En w w':=⟨h.size,fun k cs t hk ht=>h.block k cs t hk (by rcases ht with rfl|rfl|rfl<;>decide) (by rcases ht with rfl|rfl|rfl<;>decide)⟩
theorem Ar.new.keeps{c:Ar}(h:c.new B w)(k:En w w'):c.new B w':=h.over k.size (fun b m F hr=>by obtain⟨cs,hh⟩:=Ko hr;exact k.block b cs _ hh (.inl rfl))
theorem AJ.new.keeps(h:c.new B w)(k:En w w'):c.new B w':=h.over k.size (fun b m F hr=>by obtain⟨cs,hh⟩:=Ko hr;exact k.block b cs _ hh (.inr (.inl rfl)))
theorem AH.new.keeps{c:AH}(h:c.new B w)(k:En w w'):c.new B w':=h.over k.size (fun b m F hr=>by obtain⟨cs,hh⟩:=Ko hr;exact k.block b cs _ hh (.inr (.inr rfl)))
theorem Ae.new.keeps{t:Ae}(h:t.new B w)(k:En w w'):t.new B w':=⟨h.1.keeps k,h.2.1.keeps k,h.2.2.keeps k⟩
theorem Ab.new.keeps{t:Ab}(h:t.new B w)(k:En w w'):t.new B w':=⟨h.1.keeps k,h.2.1.keeps k,h.2.2.1.keeps k,h.2.2.2.keeps k⟩
theorem Ae.new.low{t:Ae}(h:t.new B w)(hB:B'<=B):t.new B' w:=⟨h.1.low hB,h.2.1.low hB,h.2.2.low hB⟩
theorem Ab.new.low{t:Ab}(h:t.new B w)(hB:B'<=B):t.new B' w:=⟨h.1.low hB,h.2.1.low hB,h.2.2.1.low hB,h.2.2.2.low hB⟩
theorem Au{cs:Array Value}(hb:Ag w P (.cells cs t))(ht:t≠78/\t≠2/\t≠9)(v:Value):En w (w.setCell ⟨P,i,none⟩ v):=by
 refine⟨by rw[nblk_setCell];exact Nat.le_refl _,fun k ck tk hk hh=>blk_setCell_other _ _ _ _ (fun e=>?_)⟩;dsimp only at e;unfold Ag at hb;rw[e]at hk;rw[hk]at hb;simp only[Option.some.injEq,Obj.cells.injEq,and_true]at hb;rcases hh with h|h|h
 ·exact ht.1 (hb.2.symm.trans h)
 ·exact ht.2.1 (hb.2.symm.trans h)
 ·exact ht.2.2 (hb.2.symm.trans h)
theorem Dq.set{l:List Ae}{cs:Array Value}(h:Dq w B v l)(hb:Ag w P (.cells cs t))(ht:t≠39)(u:Value):Dq (w.setCell ⟨P,i,none⟩ u) B v l:=by
 refine⟨h.1,?_⟩;rcases h.2 with hn|⟨g,cap,cur,hv,hbg,hg,rest⟩
 ·exact .inl hn
 ·refine .inr ⟨g,cap,cur,hv,hbg,?_,rest⟩;have hh:Ag w g (.cells cur 39):=hg;refine hh.other (fun e=>?_) u;unfold Ag at hb hh;rw[e,hh]at hb;simp only[Option.some.injEq,Obj.cells.injEq,and_true]at hb;exact ht hb.2.symm
theorem AO.set{l:List Ab}{cs:Array Value}(h:AO w B v l)(hb:Ag w P (.cells cs t))(ht:t≠44)(u:Value):AO (w.setCell ⟨P,i,none⟩ u) B v l:=by
 refine⟨h.1,?_⟩;rcases h.2 with hn|⟨g,cap,cur,hv,hbg,hg,rest⟩
 ·exact .inl hn
 ·refine .inr ⟨g,cap,cur,hv,hbg,?_,rest⟩;have hh:Ag w g (.cells cur 44):=hg;refine hh.other (fun e=>?_) u;unfold Ag at hb hh;rw[e,hh]at hb;simp only[Option.some.injEq,Obj.cells.injEq,and_true]at hb;exact ht hb.2.symm
structure BJ(w:World)(B:Nat)(vt vo:Value)(lt:List Ae)(lo:List Ab):Prop where
 t:Dq w B vt lt
 o:AO w B vo lo
 tn:∀x∈lt,x.new B w
 on:∀x∈lo,x.new B w
 tc:∀x∈lt,x.own.n<=x.own.k/\x.own.k<=maxLen
 oc:∀x∈lo,x.jA.n<=x.jA.k/\x.jA.k<=maxLen
theorem BJ.below(h:BJ w B vt vo lt lo)(hb:Below w w w'):BJ w' B vt vo lt lo:=
 ⟨h.t.below hb,h.o.below hb,fun x hx=>(h.tn x hx).keeps (Da.of_below hb).l,fun x hx=>(h.on x hx).keeps (Da.of_below hb).l,h.tc,h.oc⟩
theorem BJ.base(h:BJ w B vt vo lt lo)(hB:B'<=B):BJ w B' vt vo lt lo:=⟨h.t.base hB,h.o.base hB,fun x hx=>(h.tn x hx).low hB,fun x hx=>(h.on x hx).low hB,h.tc,h.oc⟩
theorem BJ.set{cs:Array Value}(h:BJ w B vt vo lt lo)(hb:Ag w P (.cells cs t))(ht:t=27∨t=32)(u:Value):BJ (w.setCell ⟨P,i,none⟩ u) B vt vo lt lo:=by
 have k:=Au (i:=i) hb (by rcases ht with rfl|rfl<;>decide) u;exact⟨h.t.set hb (by rcases ht with rfl|rfl<;>decide) u,h.o.set hb (by rcases ht with rfl|rfl<;>decide) u,fun x hx=>(h.tn x hx).keeps k,fun x hx=>(h.on x hx).keeps k,h.tc,h.oc⟩
theorem Ae.new.at{t:Ae}(h:t.new B w):t.at w:=⟨h.1.1,h.2.1.1,h.2.2.1⟩
def Bo(ta:Option Addr)(ca:Nat)(oa:Option Addr)(co:Nat)(lt:List Ae)(lo:List Ab):Aw:=⟨ta,lt.length,ca,Ao lt,oa,lo.length,co,Aa lo⟩
theorem BJ.at{ca co:Nat}{ta oa:Option Addr}(h:BJ w B (.slice ta lt.length ca) (.slice oa lo.length co) lt lo)(h1:lt.length<=1048576)(h2:lo.length<=1048576)(h3:∀x∈lo,x.data.size<=maxLen):(Bo ta ca oa co lt lo).at w:=
 ⟨Nat.le_trans h1 (by unfold maxLen;omega),Nat.le_trans h2 (by unfold maxLen;omega),h.t.lies (fun x hx=>(h.tn x hx).at),h.o.lies (fun x hx=>⟨(h.on x hx).1.1,(h.on x hx).2.1.1,(h.on x hx).2.2.1.1,(h.on x hx).2.2.2.1,h3 x hx⟩)⟩
theorem BJ.addT{vt':Value}{x:Ae}(h:BJ w B vt vo lt lo)(ho:Dq w' B vt' (lt++[x]))(hg:w.grownBy w' vt.ownBlock)(hx:x.new B w)(hc:x.own.n<=x.own.k/\x.own.k<=maxLen):BJ w' B vt' vo (lt++[x]) lo/\Da w w':=by
 have kk:Da w w':=⟨hg.size,fun k cs t hk h1 _=>hg.block k (Array.getElem?_eq_some_iff.1 hk).1 (fun e=>by
  rcases h.t.2 with⟨hv,_⟩|⟨g,cap,cur,hv,_,hgg,_⟩
  ·rw[hv]at e;cases e
  ·rw[hv]at e;cases e;rw[hgg]at hk;simp only[Option.some.injEq,Obj.cells.injEq,and_true]at hk;exact h1 hk.2.symm)⟩
 refine⟨⟨ho,?_,fun y hy=>?_,fun y hy=>(h.on y hy).keeps kk.l,fun y hy=>?_,h.oc⟩,kk⟩
 ·refine⟨h.o.1,?_⟩;rcases h.o.2 with hn|⟨g,cap,cur,hv,hbg,hgg,rest⟩
  ·exact .inl hn
  ·refine .inr ⟨g,cap,cur,hv,hbg,?_,rest⟩;refine(hg.block g (Array.getElem?_eq_some_iff.1 hgg).1 (fun e=>?_)).trans hgg;rcases h.t.2 with⟨hv,_⟩|⟨g',cap',cur',hv',_,hgg',_⟩
   ·rw[hv]at e;cases e
   ·rw[hv']at e;cases e;rw[hgg']at hgg;simp at hgg
 ·rcases List.mem_append.1 hy with hy|hy
  ·exact(h.tn y hy).keeps kk.l
  ·rw[List.mem_singleton.1 hy];exact hx.keeps kk.l
 ·rcases List.mem_append.1 hy with hy|hy
  ·exact h.tc y hy
  ·rw[List.mem_singleton.1 hy];exact hc
theorem BJ.addO{vo':Value}{x:Ab}(h:BJ w B vt vo lt lo)(ho:AO w' B vo' (lo++[x]))(hg:w.grownBy w' vo.ownBlock)(hx:x.new B w)(hc:x.jA.n<=x.jA.k/\x.jA.k<=maxLen):BJ w' B vt vo' lt (lo++[x])/\Da w w':=by
 have kk:Da w w':=⟨hg.size,fun k cs t hk _ h1=>hg.block k (Array.getElem?_eq_some_iff.1 hk).1 (fun e=>by
  rcases h.o.2 with⟨hv,_⟩|⟨g,cap,cur,hv,_,hgg,_⟩
  ·rw[hv]at e;cases e
  ·rw[hv]at e;cases e;rw[hgg]at hk;simp only[Option.some.injEq,Obj.cells.injEq,and_true]at hk;exact h1 hk.2.symm)⟩
 refine⟨⟨?_,ho,fun y hy=>(h.tn y hy).keeps kk.l,fun y hy=>?_,h.tc,fun y hy=>?_⟩,kk⟩
 ·refine⟨h.t.1,?_⟩;rcases h.t.2 with hn|⟨g,cap,cur,hv,hbg,hgg,rest⟩
  ·exact .inl hn
  ·refine .inr ⟨g,cap,cur,hv,hbg,?_,rest⟩;refine(hg.block g (Array.getElem?_eq_some_iff.1 hgg).1 (fun e=>?_)).trans hgg;rcases h.o.2 with⟨hv,_⟩|⟨g',cap',cur',hv',_,hgg',_⟩
   ·rw[hv]at e;cases e
   ·rw[hv']at e;cases e;rw[hgg']at hgg;simp at hgg
 ·rcases List.mem_append.1 hy with hy|hy
  ·exact(h.on y hy).keeps kk.l
  ·rw[List.mem_singleton.1 hy];exact hx.keeps kk.l
 ·rcases List.mem_append.1 hy with hy|hy
  ·exact h.oc y hy
  ·rw[List.mem_singleton.1 hy];exact hc
open Go.BigFrame Go.Shelf Go.Proofs.Tryz
variable {w wr w':World}{k:Aw}{vt vo:Value}{lt:List Ae}{lo:List Ab}{u:Ae}{a:Option Addr}{c:Nat}
theorem Hq{F:Func}(tmps:Array Value)(W:World)(P n:Nat)(x y:Value)(hF:F.results=#[.cell n 27])(h:Ag W P (.cells #[x,y] 27))(h2:tmps[n]? =some (.pointer P)):
 (results F tmps).run prog W= .ok (.agg #[x,y]) W:=by
 obtain⟨z0,z1⟩:=h.two;simp[results,hF,go_sem,h2,z0,z1]
structure J7(w:World)(k:Aw)(wr:World)(vt vo:Value)(lt:List Ae)(lo:List Ab):Prop where
 st:BJ wr w vt vo lt lo
 st1:∀i,i<lt.length->(k.T i).same (Ao lt i)
 so1:∀i,i<lo.length->(k.O i).same (Aa lo i)
 a:Ag wr w (.cells #[.slice k.ta k.tn k.tk,.slice k.oa k.on k.ok] 27)
 r:Ag wr (w.heap.size+1) (.cells #[.slice none 0 0,.slice none 0 0] 27)
 o:Ag wr (w.heap.size+1+1) (.cells #[vt,vo] 27)
 be:Below w w wr
theorem J7.below{wr':World}(h:J7 w k wr vt vo lt lo)(hb:Below wr wr wr'):J7 w k wr' vt vo lt lo:=
 ⟨h.st.below hb,h.st1,h.so1,h.a.below hb,h.r.below hb,h.o.below hb,h.be.trans (hb.mono h.be.size)⟩
theorem MR:(∀i,i<lt.length->Ao (lt++[u]) i=Ao lt i)/\Ao (lt++[u]) lt.length=u:=⟨fun i hi=>by simp[Ao,List.getElem?_append,hi],by simp[Ao]⟩
theorem Nu{u:Ab}:(∀i,i<lo.length->Aa (lo++[u]) i=Aa lo i)/\Aa (lo++[u]) lo.length=u:=⟨fun i hi=>by simp[Aa,List.getElem?_append,hi],by simp[Aa]⟩
theorem J7.addT(h:J7 w k wr vt vo lt lo)(ho:Dq w' w (.slice a (lt.length+1) c) (lt++[u]))(hg:wr.grownBy w' vt.ownBlock)(hu:u.new w wr)(hs:(k.T lt.length).same u)(hc:u.own.n<=u.own.k/\u.own.k<=maxLen):
 Ag w' (w.heap.size+1+1) (.cells #[vt,vo] 27)/\J7 w k (w'.setCell ⟨w.heap.size+1+1,0,none⟩ (.slice a (lt.length+1) c)) (.slice a (lt.length+1) c) vo (lt++[u]) lo:=by
 obtain⟨k1,kk⟩:=h.st.addT ho hg hu hc;have o1:Ag w' (w.heap.size+1+1) (.cells #[vt,vo] 27):=kk.blk h.o (by decide) (by decide);have b1:Below w wr w':=below_grown hg h.be.size (fun j e=>(World.ownsRow.lt h.st.t j e).1);refine⟨o1,k1.set o1 (.inl rfl) _,fun i hi=>?_,h.so1,(kk.blk h.a (by decide) (by decide)).other (by omega) _,(kk.blk h.r (by decide) (by decide)).other (by omega) _,o1.jB (i:=0) _,(h.be.trans b1).setCell (by dsimp only;omega) _⟩;by_cases e:i<lt.length
 ·rw[MR.1 i e];exact h.st1 i e
 ·have:i=lt.length:=by simp at hi;omega
  rw[this,MR.2];exact hs
theorem J7.addO{u:Ab}(h:J7 w k wr vt vo lt lo)(ho:AO w' w (.slice a (lo.length+1) c) (lo++[u]))(hg:wr.grownBy w' vo.ownBlock)(hu:u.new w wr)(hs:(k.O lo.length).same u)(hc:u.jA.n<=u.jA.k/\u.jA.k<=maxLen):
 Ag w' (w.heap.size+1+1) (.cells #[vt,vo] 27)/\J7 w k (w'.setCell ⟨w.heap.size+1+1,1,none⟩ (.slice a (lo.length+1) c)) vt (.slice a (lo.length+1) c) lt (lo++[u]):=by
 obtain⟨k1,kk⟩:=h.st.addO ho hg hu hc;have o1:Ag w' (w.heap.size+1+1) (.cells #[vt,vo] 27):=kk.blk h.o (by decide) (by decide);have b1:Below w wr w':=below_grown hg h.be.size (fun j e=>(World.ownsRow.lt h.st.o j e).1);refine⟨o1,k1.set o1 (.inl rfl) _,h.st1,fun i hi=>?_,(kk.blk h.a (by decide) (by decide)).other (by omega) _,(kk.blk h.r (by decide) (by decide)).other (by omega) _,o1.jB (i:=1) _,(h.be.trans b1).setCell (by dsimp only;omega) _⟩;by_cases e:i<lo.length
 ·rw[Nu.1 i e];exact h.so1 i e
 ·have:i=lo.length:=by simp at hi;omega
  rw[this,Nu.2];exact hs
theorem UC(k:Aw)(w:World)(hk:k.at w)(hs:k.small):
 Calls prog 57 #[k.val] w fun e w'=>∃(lt:List Ae) (lo:List Ab) (ta oa:Option Addr) (ca co:Nat),e= .returned (.agg #[.slice ta lt.length ca,.slice oa lo.length co])/\BJ w' w (.slice ta lt.length ca) (.slice oa lo.length co) lt lo/\k.same (Bo ta ca oa co lt lo)/\Below w w w':=by
 have HT:=hid hk.2.2.1;have HO:=hid hk.2.2.2;have SMALL:=hid hs;have n2:No (.cells #[.slice none 0 0,.slice none 0 0] 27):=⟨⟩;have n3:No (.cells #[.slice k.ta k.tn k.tk,.slice k.oa k.on k.ok] 27):=⟨⟩;have n4:Nw (((w.alloc n3).alloc n2).alloc n2):=⟨⟩;have b0:Below w w n4:=((Bf w _).alloc (by simp) _).alloc (by simp;omega) _;have S0:Hid (J7 w k n4 (.slice none 0 0) (.slice none 0 0) [] []):=hid ⟨⟨Dq.nil _ _,AO.nil _ _,fun x hx=>absurd hx List.not_mem_nil,fun x hx=>absurd hx List.not_mem_nil,fun x hx=>absurd hx List.not_mem_nil,fun x hx=>absurd hx List.not_mem_nil⟩,fun i hi=>absurd hi (Nat.not_lt_zero i),fun i hi=>absurd hi (Nat.not_lt_zero i),((Ag.new w n3).alloc _).alloc _,(by have:=(Ag.new (w.alloc n3) n2).alloc n2;simpa using this),(by have:=Ag.new ((w.alloc n3).alloc n2) n2;simpa using this),b0⟩;clear hk hs b0;unfold Aw.val;go_enter func57,ntmps57
 go_wp2;go_loopw [4] (fun i wr=>∃(lt:List Ae) (ta:Option Addr) (ca:Nat),lt.length<=k.tn/\i= .int .i64 lt.length/\J7 w k wr (.slice ta lt.length ca) (.slice none 0 0) lt []) (fun i _=>k.tn-(intOf i).toNat)
 case atStart=>exact⟨[],none,0,Nat.zero_le _,rfl,S0⟩
 case round=>
  clear S0;obtain⟨lt,ta,ca,hl,rfl,st⟩:=hrel;have S1:=hid st;clear st;by_cases hlt:lt.length<k.tn
  ·have i1:(lt.length:Int)<(k.tn:Int):=(by omega);have i0:(0:Int)<=(lt.length:Int):=(by omega);obtain⟨b,off,ea,hbl,hc⟩:=HT.out (by omega);have bd:Below wr wr wr.drew:=(Below.refl _ wr).drew;have SD:=hid (S1.out.below bd);have CC:Fi wr.drew b (off+lt.length*7) (k.T lt.length):=(hc lt.length hlt).1.below hbl ((Below.refl _ w).trans (SD.out.be.mono nr));have q0:wr.drew.cell? ⟨b,off+lt.length*7,none⟩=some (.int .i64 (k.T lt.length).id):=CC.c0;have q1:wr.drew.cell? ⟨b,off+lt.length*7+1,none⟩=some (.int .i64 (k.T lt.length).b1):=CC.c1;have q2:wr.drew.cell? ⟨b,off+lt.length*7+2,none⟩=some (.slice (k.T lt.length).c1.a (k.T lt.length).c1.n (k.T lt.length).c1.k):=CC.c2;have q3:wr.drew.cell? ⟨b,off+lt.length*7+3,none⟩=some (.int .i64 (k.T lt.length).b2):=CC.c3;have q4:wr.drew.cell? ⟨b,off+lt.length*7+4,none⟩=some (.slice (k.T lt.length).c2.a (k.T lt.length).c2.n (k.T lt.length).c2.k):=CC.c4;have q5:wr.drew.cell? ⟨b,off+lt.length*7+5,none⟩=some (.slice (k.T lt.length).own.a (k.T lt.length).own.n (k.T lt.length).own.k):=CC.c5;have q6:wr.drew.cell? ⟨b,off+lt.length*7+6,none⟩=some (.int .i64 (k.T lt.length).made):=CC.c6;have hbw:b<wr.heap.size:=Nat.lt_of_lt_of_le hbl S1.out.be.size;obtain⟨a0,a1⟩:=S1.out.a.two;obtain⟨x0,x1⟩:=SD.out.a.two;obtain⟨y0,y1⟩:=SD.out.o.two;have CP:Hid (Calls prog 98 #[.agg #[.int .i64 (k.T lt.length).id,.int .i64 (k.T lt.length).b1,.slice (k.T lt.length).c1.a (k.T lt.length).c1.n (k.T lt.length).c1.k,.int .i64 (k.T lt.length).b2,.slice (k.T lt.length).c2.a (k.T lt.length).c2.n (k.T lt.length).c2.k,.slice (k.T lt.length).own.a (k.T lt.length).own.n (k.T lt.length).own.k,.int .i64 (k.T lt.length).made]] wr.drew fun e w'=>∃v,e= .returned v/\(∃u:Ae,v= .agg u/\(k.T lt.length).same u/\u.new wr.drew.heap.size w'/\(u.own.n<=u.own.k/\u.own.k<=maxLen)/\Below wr.drew.heap.size wr.drew w')):=hid ((Lx (k.T lt.length) wr.drew ((hc lt.length hlt).2.below SD.out.be) (SMALL.out.1.2 lt.length hlt)).mono fun _ _ ⟨u,e1,h1,h2,h3,h4⟩=>⟨_,e1,u,rfl,h1,h2,h3,h4⟩);have EG:Hid (∀args w,(callFunc 98 args).run prog w= .ok (.enter 98 args) w):=hid (enters_of func98 (by kernel_rfl) rfl);have lm:lt.length<=1048576:=(by have:=SMALL.out.1.1;omega);rw[ea]at a0 x0;clear hc CC ea bd;have sz0:=S1.out.be.size;go_wp2_with fail
   go_region_law(first
    |(refine Dk (by rfl) 98 _ _ (by rfl) EG _ (by rfl) _ CP ?_;rintro v w5 ⟨u,rfl,su,nu,cu,b5⟩;have CU:=hid cu;have S5:=hid (SD.out.below b5);have S5a:=hid ((SD.out.below b5).below (Bf w5 (.cells u 39)));have N5:=hid ((nu.low SD.out.be.size).keeps (Da.of_below (Bf w5 (.cells u 39))).l);have SU:=hid su;have ONE:Hid (Bp (w5.alloc (.cells u 39)) (some ⟨w5,0,none⟩) 1 (Ce [u])):=hid (Dq.one w5 u);have s5:w.heap.size<=(w5.alloc (.cells u 39)).heap.size:=S5a.out.be.size;obtain⟨m0,m1⟩:=S5.out.o.two;obtain⟨n0,n1⟩:=S5a.out.o.two;clear su nu b5 cu)
    |(refine IN (by rfl) _ _ (by rfl) w (.slice ta lt.length ca) lt (by rfl) S5a.out.st.t _ _ u (by rfl) ONE lm s5 ?_;intro a7 c7 w7 o7 g7;have AD:=S5a.out.addT o7 g7 N5 SU CU.out;have S7:=hid AD.2;obtain⟨z0,z1⟩:=AD.1.two;have zf:=AD.1.jC;clear AD o7 g7))
   all_goals(
    clear m0 m1 n0 n1 x0 x1 y0 y1 q0 q1 q2 q3 q4 q5 q6 a0 a1;go_wp2;go_roundw;case rel=>exact⟨lt++[u],a7,c7,by simp;omega,by first|go_num|(congr 1;simp),by rw[show(lt++[u]).length=lt.length+1 from by simp];exact S7.out⟩
    case measure=>simp[intOf];omega)
  ·have i1:¬(lt.length:Int)<(k.tn:Int):=(by omega);have ET:Hid (lt.length=k.tn):=hid (by omega);obtain⟨a0,a1⟩:=S1.out.a.two;have ST:=S1;clear S1;go_wp2;clear a0 a1 i1 hlt hl;go_loopw [5] (fun i wr=>∃(lo:List Ab) (oa:Option Addr) (co:Nat),lo.length<=k.on/\i= .int .i64 lo.length/\J7 w k wr (.slice ta lt.length ca) (.slice oa lo.length co) lt lo) (fun i _=>k.on-(intOf i).toNat)
   case atStart=>exact⟨[],none,0,Nat.zero_le _,rfl,ST⟩
   case round=>
    clear ST;obtain⟨lo,oa,co,hl,rfl,st⟩:=hrel;have S1:=hid st;clear st;by_cases hlt:lo.length<k.on
    ·have i1:(lo.length:Int)<(k.on:Int):=(by omega);have i0:(0:Int)<=(lo.length:Int):=(by omega);obtain⟨b,off,ea,hbl,hc⟩:=HO.out (by omega);have bd:Below wr wr wr.drew:=(Below.refl _ wr).drew;have SD:=hid (S1.out.below bd);have CC:C9 wr.drew b (off+lo.length*10) (k.O lo.length):=(hc lo.length hlt).1.below hbl ((Below.refl _ w).trans (SD.out.be.mono nr));have q0:wr.drew.cell? ⟨b,off+lo.length*10,none⟩=some (.int .i64 (k.O lo.length).id):=CC.c0;have q1:wr.drew.cell? ⟨b,off+lo.length*10+1,none⟩=some (.int .i64 (k.O lo.length).kind):=CC.c1;have q2:wr.drew.cell? ⟨b,off+lo.length*10+2,none⟩=some (.int .i64 (k.O lo.length).up):=CC.c2;have q3:wr.drew.cell? ⟨b,off+lo.length*10+3,none⟩=some (.int .i64 (k.O lo.length).b1):=CC.c3;have q4:wr.drew.cell? ⟨b,off+lo.length*10+4,none⟩=some (.slice (k.O lo.length).c1.a (k.O lo.length).c1.n (k.O lo.length).c1.k):=CC.c4;have q5:wr.drew.cell? ⟨b,off+lo.length*10+5,none⟩=some (.string (k.O lo.length).data):=CC.c5;have q6:wr.drew.cell? ⟨b,off+lo.length*10+6,none⟩=some (.slice (k.O lo.length).jA.a (k.O lo.length).jA.n (k.O lo.length).jA.k):=CC.c6;have q7:wr.drew.cell? ⟨b,off+lo.length*10+7,none⟩=some (.slice (k.O lo.length).own.a (k.O lo.length).own.n (k.O lo.length).own.k):=CC.c7;have q8:wr.drew.cell? ⟨b,off+lo.length*10+8,none⟩=some (.int .i64 (k.O lo.length).b2):=CC.c8;have q9:wr.drew.cell? ⟨b,off+lo.length*10+9,none⟩=some (.slice (k.O lo.length).c2.a (k.O lo.length).c2.n (k.O lo.length).c2.k):=CC.c9;have hbw:b<wr.heap.size:=Nat.lt_of_lt_of_le hbl S1.out.be.size;obtain⟨a0,a1⟩:=S1.out.a.two;obtain⟨x0,x1⟩:=SD.out.a.two;obtain⟨y0,y1⟩:=SD.out.o.two;have CP:Hid (Calls prog 99 #[.agg #[.int .i64 (k.O lo.length).id,.int .i64 (k.O lo.length).kind,.int .i64 (k.O lo.length).up,.int .i64 (k.O lo.length).b1,.slice (k.O lo.length).c1.a (k.O lo.length).c1.n (k.O lo.length).c1.k,.string (k.O lo.length).data,.slice (k.O lo.length).jA.a (k.O lo.length).jA.n (k.O lo.length).jA.k,.slice (k.O lo.length).own.a (k.O lo.length).own.n (k.O lo.length).own.k,.int .i64 (k.O lo.length).b2,.slice (k.O lo.length).c2.a (k.O lo.length).c2.n (k.O lo.length).c2.k]] wr.drew fun e w'=>∃v,e= .returned v/\(∃u:Ab,v= .agg u/\(k.O lo.length).same u/\u.new wr.drew.heap.size w'/\(u.jA.n<=u.jA.k/\u.jA.k<=maxLen)/\Below wr.drew.heap.size wr.drew w')):=hid ((Lq (k.O lo.length) wr.drew ((hc lo.length hlt).2.below SD.out.be) (SMALL.out.2.2 lo.length hlt)).mono fun _ _ ⟨u,e1,h1,h2,h3,h4⟩=>⟨_,e1,u,rfl,h1,h2,h3,h4⟩);have EG:Hid (∀args w,(callFunc 99 args).run prog w= .ok (.enter 99 args) w):=hid (enters_of func99 (by kernel_rfl) rfl);have lm:lo.length<=1048576:=(by have:=SMALL.out.2.1;omega);rw[ea]at a1 x1;clear hc CC ea bd;have sz0:=S1.out.be.size;go_wp2_with fail
     go_region_law(first
      |(refine Dk (by rfl) 99 _ _ (by rfl) EG _ (by rfl) _ CP ?_;rintro v w5 ⟨u,rfl,su,nu,cu,b5⟩;have CU:=hid cu;have S5:=hid (SD.out.below b5);have S5a:=hid ((SD.out.below b5).below (Bf w5 (.cells u 44)));have N5:=hid ((nu.low SD.out.be.size).keeps (Da.of_below (Bf w5 (.cells u 44))).l);have SU:=hid su;have ONE:Hid (Bp (w5.alloc (.cells u 44)) (some ⟨w5,0,none⟩) 1 (Ax [u])):=hid (AO.one w5 u);have s5:w.heap.size<=(w5.alloc (.cells u 44)).heap.size:=S5a.out.be.size;obtain⟨m0,m1⟩:=S5.out.o.two;obtain⟨n0,n1⟩:=S5a.out.o.two;clear su nu b5 cu)
      |(refine Gj (by rfl) _ _ (by rfl) w (.slice oa lo.length co) lo (by rfl) S5a.out.st.o _ _ u (by rfl) ONE lm s5 ?_;intro a7 c7 w7 o7 g7;have AD:=S5a.out.addO o7 g7 N5 SU CU.out;have S7:=hid AD.2;obtain⟨z0,z1⟩:=AD.1.two;have zf:=AD.1.jC;clear AD o7 g7))
     all_goals(
      clear m0 m1 n0 n1 x0 x1 y0 y1 q0 q1 q2 q3 q4 q5 q6 q7 q8 q9 a0 a1;go_wp2;go_roundw;case rel=>exact⟨lo++[u],a7,c7,by simp;omega,by first|go_num|(congr 1;simp),by rw[show(lo++[u]).length=lo.length+1 from by simp];exact S7.out⟩
      case measure=>simp[intOf];omega)
    ·have el:lo.length=k.on:=(by omega);have i1:¬(lo.length:Int)<(k.on:Int):=(by omega);have EL:=hid el;obtain⟨a0,a1⟩:=S1.out.a.two;obtain⟨y0,y1⟩:=S1.out.o.two;obtain⟨r0,r1⟩:=S1.out.r.two;have rf:=S1.out.r.jC;clear el;go_wp2;refine bodyPost_ret (Hq _ _ (w.heap.size+1) 2 _ _ Tryz.results57 ((S1.out.r.jB (i:=0) _).jB (i:=1) _) rfl) rfl ⟨lt,lo,ta,oa,ca,co,rfl,(S1.out.st.set S1.out.r (.inl rfl) _).set (S1.out.r.jB (i:=0) _) (.inl rfl) _,⟨ET,fun j hj=>S1.out.st1 j (by rw[ET.out];exact hj),EL,fun j hj=>S1.out.so1 j (by rw[EL.out];exact hj)⟩,?_⟩;exact(S1.out.be.setCell (by dsimp only;omega) _).setCell (by dsimp only;omega) _
variable {o:Ab}{k:Aw}{j:Nat}{l:List Ab}
def Bn(o:Ab):List Ab->List Ab
 |[]=>[o]
 |x::r=>if o.id<x.id then o::x::r else x::Bn o r
theorem PY:∀{a b:List Ab},(∃y∈a,o.id<y.id)->Bn o (a++b)=Bn o a++b
 |[],b,h=>by obtain⟨y,hy,_⟩:=h;exact absurd hy List.not_mem_nil
 |x::a,b,h=>by
  show Bn o (x::(a++b))=Bn o (x::a)++b;unfold Bn;split
  ·rfl
  ·rename_i hx;obtain⟨y,hy,hl⟩:=h;rcases List.mem_cons.1 hy with rfl|hy
   ·exact absurd hl hx
   ·rw[PY ⟨y,hy,hl⟩];rfl
theorem Li:∀{a b:List Ab},(∀y∈a,¬o.id<y.id)->Bn o (a++b)=a++Bn o b
 |[],b,_=>rfl
 |x::a,b,h=>by
  show Bn o (x::(a++b))=_;rw[Bn,if_neg (h x List.mem_cons_self),Li (fun y hy=>h y (List.mem_cons_of_mem _ hy))];rfl
theorem KT:∀{a:List Ab},(Bn o a).length=a.length+1
 |[]=>rfl
 |x::a=>by
  unfold Bn;split
  ·simp
  ·rw[List.length_cons,KT,List.length_cons]
theorem Kv{x:Ab}:∀{a:List Ab},x∈Bn o a->x=o∨x∈a
 |[],h=> .inl (List.mem_singleton.1 h)
 |y::a,h=>by
  unfold Bn at h;split at h
  ·rcases List.mem_cons.1 h with h|h
   ·exact .inl h
   ·exact .inr h
  ·rcases List.mem_cons.1 h with h|h
   ·exact .inr (h▸List.mem_cons_self)
   ·rcases Kv h with h|h
    ·exact .inl h
    ·exact .inr (List.mem_cons_of_mem _ h)
def Aw.oL(k:Aw)(j:Nat):List Ab:=(List.range j).map k.O
theorem JE(k:Aw)(j:Nat):k.oL (j+1)=k.oL j++[k.O j]:=by unfold Aw.oL;rw[List.range_succ,List.map_append];rfl
theorem Xw(k:Aw)(j:Nat):(k.oL j).length=j:=by simp[Aw.oL]
def Mr(k:Aw)(o:Ab)(j:Nat):Bool->List Ab->Prop
 |false,l=>l=k.oL j/\∀y∈k.oL j,¬o.id<y.id
 |true,l=>l=Bn o (k.oL j)/\∃y∈k.oL j,o.id<y.id
theorem Ub(h:Mr k o j false l)(hx:¬o.id<(k.O j).id):Mr k o (j+1) false (l++[k.O j]):=by
 refine⟨by rw[JE,h.1],fun y hy=>?_⟩;rw[JE]at hy;rcases List.mem_append.1 hy with hy|hy
 ·exact h.2 y hy
 ·rw[List.mem_singleton.1 hy];exact hx
theorem Wu(h:Mr k o j false l)(hx:o.id<(k.O j).id):Mr k o (j+1) true (l++[o]++[k.O j]):=by
 refine⟨?_,k.O j,by rw[JE];exact List.mem_append_right _ List.mem_cons_self,hx⟩;rw[JE,Li h.2,h.1,Bn,if_pos hx,List.append_assoc];rfl
theorem Us(h:Mr k o j true l):Mr k o (j+1) true (l++[k.O j]):=by
 obtain⟨h1,y,hy,hl⟩:=h;refine⟨by rw[JE,PY ⟨y,hy,hl⟩,h1],y,by rw[JE];exact List.mem_append_left _ hy,hl⟩
theorem Wl:∀{b:Bool}{l:List Ab},Mr k o j b l->l.length<=j+1
 |false,_,h=>by rw[h.1,Xw];omega
 |true,_,h=>by rw[h.1,KT,Xw];omega
theorem Wd(k:Aw)(o:Ab)(w:World)(hk:k.at w)(hn:k.on<=1048000):
 Calls prog 107 #[k.val,.agg o] w fun e w'=>∃(oa:Option Addr) (co:Nat),e= .returned (.agg #[.slice k.ta k.tn k.tk,.slice oa (Bn o (k.oL k.on)).length co])/\AO w' w (.slice oa (Bn o (k.oL k.on)).length co) (Bn o (k.oL k.on))/\Below w w w':=by
 have n4:No (.cells o 44):=⟨⟩;have n7:No (.cells #[.slice k.ta k.tn k.tk,.slice k.oa k.on k.ok] 27):=⟨⟩;have n8:No (.cells #[.slice none 0 0,.slice none 0 0] 27):=⟨⟩;have n1:Nw (((w.alloc n7).alloc n4).alloc n8):=⟨⟩;have b0:Below w w n1:=((Bf w _).alloc (by simp) _).alloc (by simp;omega) _;have A0:Ag n1 w n7:=((Ag.new w n7).alloc _).alloc _;have P0:Ag n1 (w.heap.size+1) n4:=by have:=(Ag.new (w.alloc n7) n4).alloc n8;simpa using this
 have R0:Ag n1 (w.heap.size+1+1) n8:=by have:=Ag.new ((w.alloc n7).alloc n4) n8;simpa using this
 have HO:=hid (hk.2.2.2.below b0);have HB:=hid b0;have lV:Hid ((n1:World).heap.size=w.heap.size+3):=hid (by simp);have E0:Hid (AO ((n1:World).alloc (.cells #[] 44)) (n1:World).heap.size (.slice (some ⟨w.heap.size+1+1+1,0,none⟩) 0 0) []):=hid (by
  have h:=AO.made n1 (n1:World).heap.size nr;rw[show(some ⟨(n1:World).heap.size,0,none⟩:Option Addr)=some ⟨w.heap.size+1+1+1,0,none⟩ from by simp]at h;exact h)
 have BE:=hid (Bf n1 (.cells #[] 44));have HA:=hid A0;have HP:=hid P0;have HR:=hid R0;unfold Aw.val;clear hk b0 A0 P0 R0;go_enter func107,ntmps107
 go_wp2;generalize (n1:World)=V at *;go_loopw [5,6,7] (fun v d i wr=>∃(j:Nat) (b:Bool) (l:List Ab) (la:Option Addr) (lc:Nat),j<=k.on/\i= .int .i64 j/\d= .bool b/\v= .slice la l.length lc/\Mr k o j b l/\AO wr V (.slice la l.length lc) l/\Below V V wr) (fun _ _ i _=>k.on-(intOf i).toNat)
 case atStart=>exact⟨0,false,[],_,0,Nat.zero_le _,rfl,rfl,rfl,⟨rfl,fun y hy=>absurd hy List.not_mem_nil⟩,E0,BE⟩
 case round=>
  clear E0 BE;obtain⟨j,d,l,la,lc,hj,rfl,rfl,rfl,ad,ow,be⟩:=hrel;have AT:=hid ad;have OW:=hid ow;have BB:=hid be;have ll:l.length<=1048575:=by have:=Wl ad;omega
  have ll2:l.length+1<=1048576:=by omega
  clear ad ow be;obtain⟨a0,a1⟩:=(HA.out.below BB).two;have PB:=hid (HP.out.below BB);obtain⟨o0,o1,o2,o3,o4,o5,o6,o7,o8,o9⟩:=PB.out.jE;by_cases hlt:j<k.on
  ·have i1:(j:Int)<(k.on:Int):=(by omega);have i0:(0:Int)<=(j:Int):=(by omega);obtain⟨b,off,ea,hbl,hc⟩:=HO.out (by omega);have CC:C9 wr b (off+j*10) (k.O j):=(hc j hlt).1.below hbl BB.out;have q0:wr.cell? ⟨b,off+j*10,none⟩=some (.int .i64 (k.O j).id):=CC.c0;have q1:wr.cell? ⟨b,off+j*10+1,none⟩=some (.int .i64 (k.O j).kind):=CC.c1;have q2:wr.cell? ⟨b,off+j*10+2,none⟩=some (.int .i64 (k.O j).up):=CC.c2;have q3:wr.cell? ⟨b,off+j*10+3,none⟩=some (.int .i64 (k.O j).b1):=CC.c3;have q4:wr.cell? ⟨b,off+j*10+4,none⟩=some (.slice (k.O j).c1.a (k.O j).c1.n (k.O j).c1.k):=CC.c4;have q5:wr.cell? ⟨b,off+j*10+5,none⟩=some (.string (k.O j).data):=CC.c5;have q6:wr.cell? ⟨b,off+j*10+6,none⟩=some (.slice (k.O j).jA.a (k.O j).jA.n (k.O j).jA.k):=CC.c6;have q7:wr.cell? ⟨b,off+j*10+7,none⟩=some (.slice (k.O j).own.a (k.O j).own.n (k.O j).own.k):=CC.c7;have q8:wr.cell? ⟨b,off+j*10+8,none⟩=some (.int .i64 (k.O j).b2):=CC.c8;have q9:wr.cell? ⟨b,off+j*10+9,none⟩=some (.slice (k.O j).c2.a (k.O j).c2.n (k.O j).c2.k):=CC.c9;rw[ea]at a1;have hbw:b<wr.heap.size:=Nat.lt_of_lt_of_le hbl BB.out.size;have HLT:=hid hlt;have EA:=hid ea;have HC:Hid (∀X,Below V V X->C9 X b (off+j*10) (k.O j)):=hid (fun X hX=>(hc j HLT).1.below hbl hX);clear hc CC ea hlt;cases d with
   |true=>
    go_wp2_with fail
    go_quiet(fail)
    have bn:Below wr wr (wr.drewN nq):=below_drewN (Below.refl _ wr) nq;have OWn:=hid (OW.out.below bn);have BBn:=hid (BB.out.trans (bn.mono BB.out.size));clear a0 a1 q0 q1 q2 q3 q4 q5 q6 q7 q8 q9 o0 o1 o2 o3 o4 o5 o6 o7 o8 o9 PB;clear bn OW BB;generalize wr.drewN nq=W at *;obtain⟨a0,a1⟩:=(HA.out.below BBn).two;rw[EA.out]at a1;have PB:=hid (HP.out.below BBn);obtain⟨o0,o1,o2,o3,o4,o5,o6,o7,o8,o9⟩:=PB.out.jE;have CD:C9 W b (off+j*10) (k.O j):=HC.out W BBn.out;have q0:W.cell? ⟨b,off+j*10,none⟩=some (.int .i64 (k.O j).id):=CD.c0;have q1:W.cell? ⟨b,off+j*10+1,none⟩=some (.int .i64 (k.O j).kind):=CD.c1;have q2:W.cell? ⟨b,off+j*10+2,none⟩=some (.int .i64 (k.O j).up):=CD.c2;have q3:W.cell? ⟨b,off+j*10+3,none⟩=some (.int .i64 (k.O j).b1):=CD.c3;have q4:W.cell? ⟨b,off+j*10+4,none⟩=some (.slice (k.O j).c1.a (k.O j).c1.n (k.O j).c1.k):=CD.c4;have q5:W.cell? ⟨b,off+j*10+5,none⟩=some (.string (k.O j).data):=CD.c5;have q6:W.cell? ⟨b,off+j*10+6,none⟩=some (.slice (k.O j).jA.a (k.O j).jA.n (k.O j).jA.k):=CD.c6;have q7:W.cell? ⟨b,off+j*10+7,none⟩=some (.slice (k.O j).own.a (k.O j).own.n (k.O j).own.k):=CD.c7;have q8:W.cell? ⟨b,off+j*10+8,none⟩=some (.int .i64 (k.O j).b2):=CD.c8;have q9:W.cell? ⟨b,off+j*10+9,none⟩=some (.slice (k.O j).c2.a (k.O j).c2.n (k.O j).c2.k):=CD.c9;clear CD;have sV:V.heap.size<=W.heap.size:=BBn.out.size;have n2:No (.cells (k.O j) 44):=⟨⟩;have QO:=hid (OWn.out.below ((Below.refl _ W).alloc nr n2));have QL:Hid (Bp (W.alloc n2) (some ⟨W,0,none⟩) 1 (Ax [k.O j])):=hid (AO.one W (k.O j));have sQ:V.heap.size<=(W.alloc n2).heap.size:=(by simp;omega);have bQ:=hid (BBn.out.alloc BBn.out.size n2);go_wp2_with(at_builtin;refine CI _ rfl _ _ rfl V (.slice la l.length lc) l rfl QO _ _ (k.O j) rfl QL (by omega) sQ ?_;intro a7 c7 w7 o7 g7;have O7:=hid o7;have B7:Hid (Below V V w7):=hid (bQ.out.trans (below_grown g7 sQ (fun j e=>(World.ownsRow.lt QO j e).1)));clear o7 g7)
    go_roundw;case rel=>exact⟨j+1,true,l++[k.O j],a7,c7,by have:=HLT.out;omega,by go_num,rfl,by simp,Us AT,by rw[show(l++[k.O j]).length=l.length+1 from by simp];exact O7.out,B7⟩
    case measure=>have:=HLT.out;simp[intOf];omega
   |false=>
    by_cases hx:o.id<(k.O j).id
    ·have hx':decide (o.id<(k.O j).id)=true:=decide_eq_true hx;have HX:=hid hx;go_wp2_with fail
     go_quiet(fail)
     have bn:Below wr wr (wr.drewN nq):=below_drewN (Below.refl _ wr) nq;have OWn:=hid (OW.out.below bn);have BBn:=hid (BB.out.trans (bn.mono BB.out.size));clear a0 a1 q0 q1 q2 q3 q4 q5 q6 q7 q8 q9 o0 o1 o2 o3 o4 o5 o6 o7 o8 o9 PB;clear bn OW BB;generalize wr.drewN nq=W at *;obtain⟨a0,a1⟩:=(HA.out.below BBn).two;rw[EA.out]at a1;have PB:=hid (HP.out.below BBn);obtain⟨o0,o1,o2,o3,o4,o5,o6,o7,o8,o9⟩:=PB.out.jE;have CD:C9 W b (off+j*10) (k.O j):=HC.out W BBn.out;have q0:W.cell? ⟨b,off+j*10,none⟩=some (.int .i64 (k.O j).id):=CD.c0;have q1:W.cell? ⟨b,off+j*10+1,none⟩=some (.int .i64 (k.O j).kind):=CD.c1;have q2:W.cell? ⟨b,off+j*10+2,none⟩=some (.int .i64 (k.O j).up):=CD.c2;have q3:W.cell? ⟨b,off+j*10+3,none⟩=some (.int .i64 (k.O j).b1):=CD.c3;have q4:W.cell? ⟨b,off+j*10+4,none⟩=some (.slice (k.O j).c1.a (k.O j).c1.n (k.O j).c1.k):=CD.c4;have q5:W.cell? ⟨b,off+j*10+5,none⟩=some (.string (k.O j).data):=CD.c5;have q6:W.cell? ⟨b,off+j*10+6,none⟩=some (.slice (k.O j).jA.a (k.O j).jA.n (k.O j).jA.k):=CD.c6;have q7:W.cell? ⟨b,off+j*10+7,none⟩=some (.slice (k.O j).own.a (k.O j).own.n (k.O j).own.k):=CD.c7;have q8:W.cell? ⟨b,off+j*10+8,none⟩=some (.int .i64 (k.O j).b2):=CD.c8;have q9:W.cell? ⟨b,off+j*10+9,none⟩=some (.slice (k.O j).c2.a (k.O j).c2.n (k.O j).c2.k):=CD.c9;clear CD;have sV:V.heap.size<=W.heap.size:=BBn.out.size;have mk1:True:=trivial;have n5:No (.cells o 44):=⟨⟩;have PO:=hid (OWn.out.below ((Below.refl _ W).alloc nr n5));have PL:Hid (Bp (W.alloc n5) (some ⟨W,0,none⟩) 1 (Ax [o])):=hid (AO.one W o);have sP:V.heap.size<=(W.alloc n5).heap.size:=(by simp;omega);have bP:=hid (BBn.out.alloc BBn.out.size n5);go_wp2_with(first
      |(at_builtin;have mq:=mk1;clear mk1 mq;refine CI _ rfl _ _ rfl V (.slice la l.length lc) l rfl PO _ _ o rfl PL (by omega) sP ?_;intro a6 c6 w6 ow6 g6;have B6:Hid (Below V V w6):=hid (bP.out.trans (below_grown g6 sP (fun j e=>(World.ownsRow.lt PO j e).1)));have O6:=hid (ow6.below ((Below.refl _ w6).alloc (Nat.le_refl _) (.cells (k.O j) 44)));have QL:Hid (Bp (w6.alloc (.cells (k.O j) 44)) (some ⟨w6,0,none⟩) 1 (Ax [k.O j])):=hid (AO.one w6 (k.O j));have s6:V.heap.size<=w6.heap.size:=B6.out.size;have sQ:V.heap.size<=(w6.alloc (.cells (k.O j) 44)).heap.size:=(by simp;omega);have bQ:=hid (B6.out.alloc B6.out.size (.cells (k.O j) 44));clear ow6 g6 a0 a1 q0 q1 q2 q3 q4 q5 q6 q7 q8 q9 o0 o1 o2 o3 o4 o5 o6 o7 o8 o9;obtain⟨a0,a1⟩:=(HA.out.below B6).two;rw[EA.out]at a1;have CE:C9 w6 b (off+j*10) (k.O j):=HC.out w6 B6.out;have q0:w6.cell? ⟨b,off+j*10,none⟩=some (.int .i64 (k.O j).id):=CE.c0;have q1:w6.cell? ⟨b,off+j*10+1,none⟩=some (.int .i64 (k.O j).kind):=CE.c1;have q2:w6.cell? ⟨b,off+j*10+2,none⟩=some (.int .i64 (k.O j).up):=CE.c2;have q3:w6.cell? ⟨b,off+j*10+3,none⟩=some (.int .i64 (k.O j).b1):=CE.c3;have q4:w6.cell? ⟨b,off+j*10+4,none⟩=some (.slice (k.O j).c1.a (k.O j).c1.n (k.O j).c1.k):=CE.c4;have q5:w6.cell? ⟨b,off+j*10+5,none⟩=some (.string (k.O j).data):=CE.c5;have q6:w6.cell? ⟨b,off+j*10+6,none⟩=some (.slice (k.O j).jA.a (k.O j).jA.n (k.O j).jA.k):=CE.c6;have q7:w6.cell? ⟨b,off+j*10+7,none⟩=some (.slice (k.O j).own.a (k.O j).own.n (k.O j).own.k):=CE.c7;have q8:w6.cell? ⟨b,off+j*10+8,none⟩=some (.int .i64 (k.O j).b2):=CE.c8;have q9:w6.cell? ⟨b,off+j*10+9,none⟩=some (.slice (k.O j).c2.a (k.O j).c2.n (k.O j).c2.k):=CE.c9;clear CE;have l6:(l++[o]).length<=1048576:=(by simp;omega);have mk2:True:=trivial)
      |(at_builtin;have mq:=mk2;refine CI _ rfl _ _ rfl V (.slice a6 (l.length+1) c6) (l++[o]) rfl O6 _ _ (k.O j) rfl QL l6 sQ ?_;intro a7 c7 w7 o7 g7;have O7:=hid o7;have B7:Hid (Below V V w7):=hid (bQ.out.trans (below_grown g7 sQ (fun j e=>(World.ownsRow.lt O6 j e).1)));clear o7 g7))
     go_roundw;case rel=>exact⟨j+1,true,l++[o]++[k.O j],a7,c7,by have:=HLT.out;omega,by go_num,rfl,by simp,Wu AT HX,by rw[show(l++[o]++[k.O j]).length=(l++[o]).length+1 from by simp];exact O7.out,B7⟩
     case measure=>have:=HLT.out;simp[intOf];omega
    ·have hx':decide (o.id<(k.O j).id)=false:=decide_eq_false hx;have HX:=hid hx;go_wp2_with fail
     go_quiet(fail)
     have bn:Below wr wr (wr.drewN nq):=below_drewN (Below.refl _ wr) nq;have OWn:=hid (OW.out.below bn);have BBn:=hid (BB.out.trans (bn.mono BB.out.size));clear a0 a1 q0 q1 q2 q3 q4 q5 q6 q7 q8 q9 o0 o1 o2 o3 o4 o5 o6 o7 o8 o9 PB;clear bn OW BB;generalize wr.drewN nq=W at *;obtain⟨a0,a1⟩:=(HA.out.below BBn).two;rw[EA.out]at a1;have PB:=hid (HP.out.below BBn);obtain⟨o0,o1,o2,o3,o4,o5,o6,o7,o8,o9⟩:=PB.out.jE;have CD:C9 W b (off+j*10) (k.O j):=HC.out W BBn.out;have q0:W.cell? ⟨b,off+j*10,none⟩=some (.int .i64 (k.O j).id):=CD.c0;have q1:W.cell? ⟨b,off+j*10+1,none⟩=some (.int .i64 (k.O j).kind):=CD.c1;have q2:W.cell? ⟨b,off+j*10+2,none⟩=some (.int .i64 (k.O j).up):=CD.c2;have q3:W.cell? ⟨b,off+j*10+3,none⟩=some (.int .i64 (k.O j).b1):=CD.c3;have q4:W.cell? ⟨b,off+j*10+4,none⟩=some (.slice (k.O j).c1.a (k.O j).c1.n (k.O j).c1.k):=CD.c4;have q5:W.cell? ⟨b,off+j*10+5,none⟩=some (.string (k.O j).data):=CD.c5;have q6:W.cell? ⟨b,off+j*10+6,none⟩=some (.slice (k.O j).jA.a (k.O j).jA.n (k.O j).jA.k):=CD.c6;have q7:W.cell? ⟨b,off+j*10+7,none⟩=some (.slice (k.O j).own.a (k.O j).own.n (k.O j).own.k):=CD.c7;have q8:W.cell? ⟨b,off+j*10+8,none⟩=some (.int .i64 (k.O j).b2):=CD.c8;have q9:W.cell? ⟨b,off+j*10+9,none⟩=some (.slice (k.O j).c2.a (k.O j).c2.n (k.O j).c2.k):=CD.c9;clear CD;have sV:V.heap.size<=W.heap.size:=BBn.out.size;have n3:No (.cells (k.O j) 44):=⟨⟩;have QO:=hid (OWn.out.below ((Below.refl _ W).alloc nr n3));have QL:Hid (Bp (W.alloc n3) (some ⟨W,0,none⟩) 1 (Ax [k.O j])):=hid (AO.one W (k.O j));have sQ:V.heap.size<=(W.alloc n3).heap.size:=(by simp;omega);have bQ:=hid (BBn.out.alloc BBn.out.size n3);go_wp2_with(at_builtin;refine CI _ rfl _ _ rfl V (.slice la l.length lc) l rfl QO _ _ (k.O j) rfl QL (by omega) sQ ?_;intro a7 c7 w7 o7 g7;have O7:=hid o7;have B7:Hid (Below V V w7):=hid (bQ.out.trans (below_grown g7 sQ (fun j e=>(World.ownsRow.lt QO j e).1)));clear o7 g7)
     go_roundw;case rel=>exact⟨j+1,false,l++[k.O j],a7,c7,by have:=HLT.out;omega,by go_num,rfl,by simp,Ub AT (Int.not_lt.2 HX),by rw[show(l++[k.O j]).length=l.length+1 from by simp];exact O7.out,B7⟩
     case measure=>have:=HLT.out;simp[intOf];omega
  ·obtain rfl:j=k.on:=by omega
   have i1:¬(k.on:Int)<(k.on:Int):=(by omega);have rA:=(HA.out.below BB).jC;obtain⟨r0,r1⟩:=(HR.out.below BB).two;have rf:=(HR.out.below BB).jC;cases d with
   |true=>
    have EL:Hid ((Bn o (k.oL k.on)).length=l.length/\Bn o (k.oL k.on)=l):=hid ⟨by rw[AT.out.1],AT.out.1.symm⟩;go_wp2;have KB:=hid (HA.out.below BB);have RB:=hid ((HR.out.below BB).other (Q:=w.heap.size) (i:=1) (by omega) (.slice la l.length lc));have FO:=hid (((AO.set OW KB (i:=1) (by decide) (.slice la l.length lc)).set RB (i:=0) (by decide) (.slice k.ta k.tn k.tk)).set (RB.out.jB (i:=0) (.slice k.ta k.tn k.tk)) (i:=1) (by decide) (.slice la l.length lc));refine bodyPost_ret (Hq _ _ (w.heap.size+1+1) 4 _ _ Tryz.results107 ((RB.out.jB (i:=0) _).jB (i:=1) _) rfl) rfl ⟨la,lc,by rw[EL.out.1],by rw[EL.out.2];exact FO.out.base HB.out.size,?_⟩;iterate 3 refine Below.setCell ?_ (by dsimp only;omega) _
    exact HB.out.trans (BB.out.mono HB.out.size)
   |false=>
    have EL:Hid ((Bn o (k.oL k.on)).length=l.length+1/\Bn o (k.oL k.on)=l++[o]):=hid (by
     have h:Bn o (k.oL k.on)=l++[o]:=by
      have:=Li (b:=[]) AT.out.2;rw[List.append_nil]at this;rw[this,AT.out.1];rfl
     exact⟨by rw[h];simp,h⟩)
    have n6:No (.cells o 44):=⟨⟩;have PO:=hid (OW.out.below ((Below.refl _ wr).alloc nr n6));have PL:Hid (Bp (wr.alloc n6) (some ⟨wr,0,none⟩) 1 (Ax [o])):=hid (AO.one wr o);have sV:V.heap.size<=wr.heap.size:=BB.out.size;have sP:V.heap.size<=(wr.alloc n6).heap.size:=(by simp;omega);have bP:=hid (BB.out.alloc BB.out.size n6);go_wp2_with(at_builtin;refine CI _ rfl _ _ rfl V (.slice la l.length lc) l rfl PO _ _ o rfl PL (by omega) sP ?_;intro a6 c6 w6 ow6 g6;have B6:Hid (Below V V w6):=hid (bP.out.trans (below_grown g6 sP (fun j e=>(World.ownsRow.lt PO j e).1)));have O6:=hid ow6;clear ow6 g6 a0 a1 o0 o1 o2 o3 o4 o5 o6 o7 o8 o9 r0 r1 rf rA;obtain⟨a0,a1⟩:=(HA.out.below B6).two;have rA:=(HA.out.below B6).jC;obtain⟨r0,r1⟩:=(HR.out.below B6).two;have rf:=(HR.out.below B6).jC)
    have KB:=hid (HA.out.below B6);have n9:Nv (.slice a6 (l.length+1) c6):=⟨⟩;have RB:=hid ((HR.out.below B6).other (Q:=w.heap.size) (i:=1) (by omega) n9);have FO:=hid (((AO.set O6 KB (i:=1) (by decide) n9).set RB (i:=0) (by decide) (.slice k.ta k.tn k.tk)).set (RB.out.jB (i:=0) (.slice k.ta k.tn k.tk)) (i:=1) (by decide) n9);refine bodyPost_ret (Hq _ _ (w.heap.size+1+1) 4 _ _ Tryz.results107 ((RB.out.jB (i:=0) _).jB (i:=1) _) rfl) rfl ⟨a6,c6,by rw[EL.out.1],by rw[EL.out.1,EL.out.2];exact FO.out.base HB.out.size,?_⟩;iterate 3 refine Below.setCell ?_ (by dsimp only;omega) _
    exact HB.out.trans (B6.out.mono HB.out.size)
variable {w:World}{α:Type}{t B g i:Nat}{lt:List Ae}{lo:List Ab}{u:Value}
structure Al where
 th:Int
 kind:Int
 id:Int
 «to»:Int
 cat:Int
 data:ByteArray
 b1:Int
 c1:Ar
 b2:Int
 c2:Ar
instance:Coe Al (Array Value):=⟨fun s=>#[s.th,s.kind,s.id,s.to,s.cat,.string s.data,s.b1,.slice s.c1.a s.c1.n s.c1.k,s.b2,.slice s.c2.a s.c2.n s.c2.k]⟩
def Al.cells(s:Al):Array Value:=s
def Al.at(w:World)(s:Al):Prop:=s.c1.at w/\s.c2.at w/\s.data.size<=maxLen
theorem Al.at.below{w':World}{s:Al}(h:s.at w)(hb:Below w w w'):s.at w':=⟨h.1.below hb,h.2.1.below hb,h.2.2⟩
theorem Dd{f:α->List Value}{c:Nat}(hl:∀x,(f x).length=c):∀{l:List α}{t i:Nat}{x:α}{u:Value} (ht:t<l.length),i<c->f x=(f l[t]).set i u->((l.map f).flatten).set (t*c+i) u=((l.set t x).map f).flatten
 |[],t,_,_,_,ht,_,_=>absurd ht (Nat.not_lt_zero t)
 |y::r,0,i,x,u,_,hi,h=>by
  show(f y++(r.map f).flatten).set (0*c+i) u=f x++(r.map f).flatten;rw[Nat.zero_mul,Nat.zero_add,List.set_append_left _ _ (by rw[hl];exact hi)];have h':f x=(f y).set i u:=h;rw[h']
 |y::r,t+1,i,x,u,ht,hi,h=>by
  show(f y++(r.map f).flatten).set ((t+1)*c+i) u=f y++((r.set t x).map f).flatten;have e:(t+1)*c+i=(f y).length+(t*c+i):=by rw[hl,Nat.succ_mul];omega
  rw[e,List.set_append_right _ _ (by omega),Nat.add_sub_cancel_left];rw[Dd hl (l:=r) (t:=t) (x:=x) (by simpa using ht) hi h]
theorem Ae.jK(x:Ae):x.cs.length=7:=rfl
theorem Ab.jK(x:Ab):x.cs.length=10:=rfl
theorem Eu{l:List α}{x y:α}(h:y∈l.set t x):y=x∨y∈l:=by
 rcases List.mem_or_eq_of_mem_set h with h|h
 ·exact .inr h
 ·exact .inl h
theorem BJ.setT{ca:Nat}{vo:Value}(h:BJ w B (.slice g lt.length ca) vo lt lo){x:Ae}(ht:t<lt.length)(hi:i<7)(hcs:x.cs=(lt[t]).cs.set i u)(hx:x.new B w)(hc:x.own.n<=x.own.k/\x.own.k<=maxLen):
 BJ (w.setCell ⟨g,t*7+i,none⟩ u) B (.slice g (lt.set t x).length ca) vo (lt.set t x) lo/\(∃cur,Ag w g (.cells cur 39))/\B<=g:=by
 have hg:∃cur,Ag w g (.cells cur 39):=by
  rcases h.t.2 with⟨hv,_⟩|⟨g',cap,cur,hv,_,hgg,_⟩
  ·cases hv
  ·cases hv;exact⟨cur,hgg⟩
 have hBg:B<=g:=(World.ownsRow.lt h.t g rfl).1;obtain⟨cur,hcur⟩:=hg;have kl:=Au (i:=t*7+i) hcur (by decide) u;have el:(lt.set t x).length=lt.length:=by simp
 have ho:=(World.ownsRow.stored h.t (t*7+i) u).1;refine⟨⟨?_,h.o.set hcur (by decide) u,fun y hy=>?_,fun y hy=>(h.on y hy).keeps kl,fun y hy=>?_,h.oc⟩,⟨cur,hcur⟩,hBg⟩
 ·unfold Dq;rw[el];have e:=Dd (f:=Ae.cs) Ae.jK (l:=lt) (t:=t) (x:=x) (u:=u) ht hi hcs;unfold Ce;rw[<-e];exact ho
 ·rcases Eu hy with rfl|hy
  ·exact hx.keeps kl
  ·exact(h.tn y hy).keeps kl
 ·rcases Eu hy with rfl|hy
  ·exact hc
  ·exact h.tc y hy
theorem BJ.setO{co:Nat}{vt:Value}(h:BJ w B vt (.slice g lo.length co) lt lo){x:Ab}(ht:t<lo.length)(hi:i<10)(hcs:x.cs=(lo[t]).cs.set i u)(hx:x.new B w)(hc:x.jA.n<=x.jA.k/\x.jA.k<=maxLen):
 BJ (w.setCell ⟨g,t*10+i,none⟩ u) B vt (.slice g (lo.set t x).length co) lt (lo.set t x)/\(∃cur,Ag w g (.cells cur 44))/\B<=g:=by
 have hg:∃cur,Ag w g (.cells cur 44):=by
  rcases h.o.2 with⟨hv,_⟩|⟨g',cap,cur,hv,_,hgg,_⟩
  ·cases hv
  ·cases hv;exact⟨cur,hgg⟩
 have hBg:B<=g:=(World.ownsRow.lt h.o g rfl).1;obtain⟨cur,hcur⟩:=hg;have kl:=Au (i:=t*10+i) hcur (by decide) u;have el:(lo.set t x).length=lo.length:=by simp
 have ho:=(World.ownsRow.stored h.o (t*10+i) u).1;refine⟨⟨h.t.set hcur (by decide) u,?_,fun y hy=>(h.tn y hy).keeps kl,fun y hy=>?_,h.tc,fun y hy=>?_⟩,⟨cur,hcur⟩,hBg⟩
 ·unfold AO;rw[el];have e:=Dd (f:=Ab.cs) Ab.jK (l:=lo) (t:=t) (x:=x) (u:=u) ht hi hcs;unfold Ax;rw[<-e];exact ho
 ·rcases Eu hy with rfl|hy
  ·exact hx.keeps kl
  ·exact(h.on y hy).keeps kl
 ·rcases Eu hy with rfl|hy
  ·exact hc
  ·exact h.oc y hy
variable {n k:Nat}{x base:Int}{f g:Nat->Int}
theorem Qs{m:Int->Option Int}{base c:Int}{D:DataW Unit}(h1:Maps.has D (.int .i64 x)=(m x).isSome)(h2:∀v,m x=some v->D.atKey (.int .i64 x) (.lit (.int .i64 0))= .lit (.int .i64 v))(hat:D.atKey (.int .i64 x) (.lit (.int .i64 0))= .lit (.int .i64 c)):
 (Maps.has D (.int .i64 x)=true->(m x).getD base=c)/\(Maps.has D (.int .i64 x)=false->(m x).getD base=base):=by
 cases hm:m x with
 |none=>simp[h1,hm]
 |some v=>
  have:=(h2 v hm).symm.trans hat;simp at this;simp[h1,hm,this]
theorem ZS(base:Int)(c n:Nat)(m:Int->Option Int)(x:Int)(w:World)(hm:Br w c n m)(hx:(Lit.int .i64 x).wf=true):
 Calls prog 78 #[.agg #[.int .i64 base,.map (some c)],.int .i64 x] w fun e w'=>e= .returned (.int .i64 ((m x).getD base))/\Below w w w':=by
 have hkey:keyOf prog 2 (.int .i64 x)=some (.int .i64 x):=keyOf_int_mk underlying2 hx;obtain⟨D,hown,hD,hall⟩:=hm.alloc (.cells #[.int .i64 base,.map (some c)] 131);obtain⟨h1,h2⟩:=hall x;clear hall;go_enter func78,ntmps78
 have HH:Hid (∀(c:Int),D.atKey (.int .i64 x) (.lit (.int .i64 0))= .lit (.int .i64 c)->(Maps.has D (.int .i64 x)=true->(m x).getD base=c)/\(Maps.has D (.int .i64 x)=false->(m x).getD base=base)):=fun c hat=>Qs h1 h2 hat;clear h1 h2;go_wp2_with(at_lookup;refine wpList_lookup_own_ok_int _ rfl _ _ 129 rfl 2 2 .i64 H9 underlying129 underlying2 (Zu _) c n _ rfl hown _ _ rfl hkey ?_;intro cc hat hwc)
 ·go_ret;have t:Maps.has D (.int .i64 x)=true:=by assumption
  exact⟨Ff ((HH _ hat).1 t).symm,Bf _ _⟩
 ·go_ret;have t:Maps.has D (.int .i64 x)=false:=by assumption
  exact⟨Ff ((HH _ hat).2 t).symm,Bf _ _⟩
def EZ(base:Int)(n:Nat)(f g:Nat->Int)(x:Int):Int:=(look f g n x).getD base
theorem Wy(h:∀i,i<k->f i≠x):look f g k x=none:=by
 induction k with
 |zero=>rfl
 |succ k ih=>simp only[look];rw[if_neg (h k (by omega))];exact ih fun i hi=>h i (by omega)
theorem VK(hr:∀j,j<n->∀i,i<j->f i<f j)(hk:k<n):look f g n (f k)=some (g k):=by
 induction n with
 |zero=>omega
 |succ n ih=>
  simp only[look];by_cases e:k=n
  ·subst e;rw[if_pos rfl]
  ·have:=hr n (by omega) k (by omega);rw[if_neg (by omega)];exact ih (fun j hj i hi=>hr j (by omega) i hi) (by omega)
theorem Mb(base:Int)(a:Option Addr)(n cap:Nat)(f g:Nat->Int)(x:Int)(w:World)(hn:n<=maxLen)(hc:AX w a n f g)(hr:∀j,j<n->∀i,i<j->f i<f j):
 Calls prog 138 #[.agg #[.int .i64 base,.slice a n cap],.int .i64 x] w fun e w'=>e= .returned (.int .i64 (EZ base n f g x))/\Below w w w':=by
 unfold maxLen at hn;have hb0:=Bf w (.cells #[.int .i64 base,.slice a n cap] 30);have hc1:=hc.below hb0;have HR:Hid (∀j,j<n->∀i,i<j->f i<f j):=hr;clear hc hr;go_enter func138,ntmps138
 go_wp2;go_loop [5] (fun i=>∃k:Nat,k<=n/\i= .int .i64 k/\(∀j,j<k->f j≠x)) (fun i=>n-(intOf i).toNat)
 case atStart=>exact⟨0,Nat.zero_le _,rfl,fun j hj=>by omega⟩
 case round=>
  obtain⟨k,hk,rfl,hall⟩:=hrel;have HA:Hid (∀j,j<k->f j≠x):=hall;clear hall;by_cases hlt':k<n
  ·obtain⟨b,off,rfl,hlt,hcc⟩:=hc1 (by omega);obtain⟨g1,g2⟩:=hcc k hlt';clear hcc hc1;by_cases t:(f k==x)=true
   ·go_wp2;go_ret;have t':f k=x:=(by simpa using t);exact⟨Ff (by rw[<-t',EZ,VK HR.out hlt'];rfl),hb0⟩
   ·have t':(f k==x)=false:=(by simpa using t);clear t;go_wp2;go_round;case rel=>
     refine⟨k+1,by omega,by go_num,fun j hj=>?_⟩;by_cases e:j=k
     ·subst e;simpa using t'
     ·exact HA.out j (by omega)
    case measure=>simp[intOf];omega
  ·clear hc1;go_wp2;go_ret;have e:k=n:=(by omega);subst e;exact⟨Ff (by rw[EZ,Wy HA.out];rfl),hb0⟩
theorem SR(h:Bb base n f g=true):∀i,i<n->(Lit.int .i64 (f i)).wf=true/\(Lit.int .i64 (g i)).wf=true:=fun i hi=>by
 obtain⟨h1,h2,_⟩:=Wp.1 ((Lo h).2.2 i hi);exact⟨Ig (by omega) (by omega),Ig (by omega) (by omega)⟩
end Go.Proofs.YteoihknaljgocaaGreatDoor
