import Derived.Test.YtallmkehpfaaeaaGreatDoorZ4
import Derived.Test.YtallmkehpfaaeaaGreatDoorZ7
set_option maxRecDepth 100000
set_option maxHeartbeats 16000000
namespace Go.Proofs.YtallmkehpfaaeaaGreatDoor
open Go Go.RowKit Go.Deep Go.Maps
structure KeepsK(w w':World):Prop where
 size:w.heap.size≤w'.heap.size
 block:∀(k:Nat) (cs:Array Value) (t:TypeId),w.heap[k]? =some (Obj.cells cs t (0,0))→t≠42→t≠47→w'.heap[k]? =w.heap[k]?
theorem KeepsK.blk{w w':World}{P t:Nat}{cs:Array Value}(h:KeepsK w w')(hb:Blk w P (.cells cs t))(h1:t≠42)(h2:t≠47):Blk w' P (.cells cs t):=(h.block P cs t hb h1 h2).trans hb
theorem KeepsK.of_below{w w':World}(h:Below w.heap.size w w'):KeepsK w w':=⟨h.size,fun k _ _ hk _ _=>h.block k (Array.getElem?_eq_some_iff.1 hk).1⟩
theorem keep_row{w:World}{b ty m:Nat}{F:Nat→Value}(hr:w.rowIs b ty m F):∃cs,w.heap[b]? =some (.cells cs ty (0,0)):=by
 obtain⟨c,h1,_⟩:=hr;exact⟨c,h1⟩
theorem IntL.new.over{B:Nat}{w w':World}{c:IntL}(h:c.new B w)(hs:w.heap.size≤w'.heap.size)(hb:∀b m F,w.rowIs b 2 m F→w'.heap[b]? =w.heap[b]?):c.new B w':=h.of hs (fun b e hn=>by
 obtain⟨b',m,F,e',_,_,hr⟩:=h.2 hn;rw[e]at e';cases e';exact hb b m F hr)
theorem StrL.new.over{B:Nat}{w w':World}{c:StrL}(h:c.new B w)(hs:w.heap.size≤w'.heap.size)(hb:∀b m F,w.rowIs b 9 m F→w'.heap[b]? =w.heap[b]?):c.new B w':=h.of hs (fun b e hn=>by
 obtain⟨b',m,F,e',_,_,hr⟩:=h.2 hn;rw[e]at e';cases e';exact hb b m F hr)
structure KeepsL(w w':World):Prop where
 size:w.heap.size≤w'.heap.size
 block:∀(k:Nat) (cs:Array Value) (t:TypeId),w.heap[k]? =some (Obj.cells cs t (0,0))→t=95∨t=2∨t=9→w'.heap[k]? =w.heap[k]?
theorem KeepsK.l{w w':World}(h:KeepsK w w'):KeepsL w w':=⟨h.size,fun k cs t hk ht=>h.block k cs t hk (by rcases ht with rfl|rfl|rfl<;>decide) (by rcases ht with rfl|rfl|rfl<;>decide)⟩
theorem CatL.new.keeps{B:Nat}{w w':World}{c:CatL}(h:c.new B w)(k:KeepsL w w'):c.new B w':=h.over k.size (fun b m F hr=>by obtain⟨cs,hh⟩:=keep_row hr;exact k.block b cs _ hh (.inl rfl))
theorem IntL.new.keeps{B:Nat}{w w':World}{c:IntL}(h:c.new B w)(k:KeepsL w w'):c.new B w':=h.over k.size (fun b m F hr=>by obtain⟨cs,hh⟩:=keep_row hr;exact k.block b cs _ hh (.inr (.inl rfl)))
theorem StrL.new.keeps{B:Nat}{w w':World}{c:StrL}(h:c.new B w)(k:KeepsL w w'):c.new B w':=h.over k.size (fun b m F hr=>by obtain⟨cs,hh⟩:=keep_row hr;exact k.block b cs _ hh (.inr (.inr rfl)))
theorem ThrV.new.keeps{B:Nat}{w w':World}{t:ThrV}(h:t.new B w)(k:KeepsL w w'):t.new B w':=⟨h.1.keeps k,h.2.1.keeps k,h.2.2.keeps k⟩
theorem ObjV.new.keeps{B:Nat}{w w':World}{t:ObjV}(h:t.new B w)(k:KeepsL w w'):t.new B w':=⟨h.1.keeps k,h.2.1.keeps k,h.2.2.1.keeps k,h.2.2.2.keeps k⟩
theorem ThrV.new.low{B B':Nat}{w:World}{t:ThrV}(h:t.new B w)(hB:B'≤B):t.new B' w:=⟨h.1.low hB,h.2.1.low hB,h.2.2.low hB⟩
theorem ObjV.new.low{B B':Nat}{w:World}{t:ObjV}(h:t.new B w)(hB:B'≤B):t.new B' w:=⟨h.1.low hB,h.2.1.low hB,h.2.2.1.low hB,h.2.2.2.low hB⟩
theorem keeps_set{w:World}{P i t:Nat}{cs:Array Value}(hb:Blk w P (.cells cs t))(ht:t≠95∧t≠2∧t≠9)(v:Value):KeepsL w (w.setCell ⟨P,i,none⟩ v):=by
 refine⟨by rw[nblk_setCell];exact Nat.le_refl _,fun k ck tk hk hh=>blk_setCell_other _ _ _ _ (fun e=>?_)⟩;dsimp only at e;unfold Blk at hb;rw[e]at hk;rw[hk]at hb;simp only[Option.some.injEq,Obj.cells.injEq,and_true]at hb;rcases hh with h|h|h
 ·exact ht.1 (hb.2.symm.trans h)
 ·exact ht.2.1 (hb.2.symm.trans h)
 ·exact ht.2.2 (hb.2.symm.trans h)
theorem OwnT.set{w:World}{B P i t:Nat}{v:Value}{l:List ThrV}{cs:Array Value}(h:OwnT w B v l)(hb:Blk w P (.cells cs t))(ht:t≠42)(u:Value):OwnT (w.setCell ⟨P,i,none⟩ u) B v l:=by
 refine⟨h.1,?_⟩;rcases h.2 with hn|⟨g,cap,cur,hv,hbg,hg,rest⟩
 ·exact .inl hn
 ·refine .inr ⟨g,cap,cur,hv,hbg,?_,rest⟩;have hh:Blk w g (.cells cur 42):=hg;refine hh.other (fun e=>?_) u;unfold Blk at hb hh;rw[e,hh]at hb;simp only[Option.some.injEq,Obj.cells.injEq,and_true]at hb;exact ht hb.2.symm
theorem OwnOb.set{w:World}{B P i t:Nat}{v:Value}{l:List ObjV}{cs:Array Value}(h:OwnOb w B v l)(hb:Blk w P (.cells cs t))(ht:t≠47)(u:Value):OwnOb (w.setCell ⟨P,i,none⟩ u) B v l:=by
 refine⟨h.1,?_⟩;rcases h.2 with hn|⟨g,cap,cur,hv,hbg,hg,rest⟩
 ·exact .inl hn
 ·refine .inr ⟨g,cap,cur,hv,hbg,?_,rest⟩;have hh:Blk w g (.cells cur 47):=hg;refine hh.other (fun e=>?_) u;unfold Blk at hb hh;rw[e,hh]at hb;simp only[Option.some.injEq,Obj.cells.injEq,and_true]at hb;exact ht hb.2.symm
structure KSt(w:World)(B:Nat)(vt vo:Value)(lt:List ThrV)(lo:List ObjV):Prop where
 t:OwnT w B vt lt
 o:OwnOb w B vo lo
 tn:∀x∈lt,x.new B w
 on:∀x∈lo,x.new B w
 tc:∀x∈lt,x.own.n≤x.own.k∧x.own.k≤maxLen
 oc:∀x∈lo,x.items.n≤x.items.k∧x.items.k≤maxLen
theorem KSt.below{w w':World}{B:Nat}{vt vo:Value}{lt:List ThrV}{lo:List ObjV}(h:KSt w B vt vo lt lo)(hb:Below w.heap.size w w'):KSt w' B vt vo lt lo:=
 ⟨h.t.below hb,h.o.below hb,fun x hx=>(h.tn x hx).keeps (KeepsK.of_below hb).l,fun x hx=>(h.on x hx).keeps (KeepsK.of_below hb).l,h.tc,h.oc⟩
theorem KSt.base{w:World}{B B':Nat}{vt vo:Value}{lt:List ThrV}{lo:List ObjV}(h:KSt w B vt vo lt lo)(hB:B'≤B):KSt w B' vt vo lt lo:=⟨h.t.base hB,h.o.base hB,fun x hx=>(h.tn x hx).low hB,fun x hx=>(h.on x hx).low hB,h.tc,h.oc⟩
theorem KSt.set{w:World}{B P i t:Nat}{vt vo:Value}{lt:List ThrV}{lo:List ObjV}{cs:Array Value}(h:KSt w B vt vo lt lo)(hb:Blk w P (.cells cs t))(ht:t=27∨t=32)(u:Value):KSt (w.setCell ⟨P,i,none⟩ u) B vt vo lt lo:=by
 have k:=keeps_set (i:=i) hb (by rcases ht with rfl|rfl<;>decide) u;exact⟨h.t.set hb (by rcases ht with rfl|rfl<;>decide) u,h.o.set hb (by rcases ht with rfl|rfl<;>decide) u,fun x hx=>(h.tn x hx).keeps k,fun x hx=>(h.on x hx).keeps k,h.tc,h.oc⟩
theorem ThrV.new.at{B:Nat}{w:World}{t:ThrV}(h:t.new B w):t.at w:=⟨h.1.1,h.2.1.1,h.2.2.1⟩
def kOf(ta:Option Addr)(ca:Nat)(oa:Option Addr)(co:Nat)(lt:List ThrV)(lo:List ObjV):KerV:=⟨ta,lt.length,ca,atOwnT lt,oa,lo.length,co,atOwnOb lo⟩
theorem KSt.at{w:World}{B ca co:Nat}{ta oa:Option Addr}{lt:List ThrV}{lo:List ObjV}(h:KSt w B (.slice ta lt.length ca) (.slice oa lo.length co) lt lo)(h1:lt.length≤1048576)(h2:lo.length≤1048576)(h3:∀x∈lo,x.data.size≤maxLen):(kOf ta ca oa co lt lo).at w:=
 ⟨Nat.le_trans h1 (by unfold maxLen;omega),Nat.le_trans h2 (by unfold maxLen;omega),h.t.lies (fun x hx=>(h.tn x hx).at),h.o.lies (fun x hx=>⟨(h.on x hx).1.1,(h.on x hx).2.1.1,(h.on x hx).2.2.1.1,(h.on x hx).2.2.2.1,h3 x hx⟩)⟩
theorem KSt.addT{w w':World}{B:Nat}{vt vo vt':Value}{lt:List ThrV}{lo:List ObjV}{x:ThrV}(h:KSt w B vt vo lt lo)(ho:OwnT w' B vt' (lt++[x]))(hg:w.grownBy w' vt.ownBlock)(hx:x.new B w)(hc:x.own.n≤x.own.k∧x.own.k≤maxLen):KSt w' B vt' vo (lt++[x]) lo∧KeepsK w w':=by
 have kk:KeepsK w w':=⟨hg.size,fun k cs t hk h1 _=>hg.block k (Array.getElem?_eq_some_iff.1 hk).1 (fun e=>by
  rcases h.t.2 with⟨hv,_⟩|⟨g,cap,cur,hv,_,hgg,_⟩
  ·rw[hv]at e;cases e
  ·rw[hv]at e;cases e;rw[hgg]at hk;simp only[Option.some.injEq,Obj.cells.injEq,and_true]at hk;exact h1 hk.2.symm)⟩
 refine⟨⟨ho,?_,fun y hy=>?_,fun y hy=>(h.on y hy).keeps kk.l,fun y hy=>?_,h.oc⟩,kk⟩
 ·refine⟨h.o.1,?_⟩;rcases h.o.2 with hn|⟨g,cap,cur,hv,hbg,hgg,rest⟩
  ·exact .inl hn
  ·refine .inr ⟨g,cap,cur,hv,hbg,?_,rest⟩;refine(hg.block g (Array.getElem?_eq_some_iff.1 hgg).1 (fun e=>?_)).trans hgg;rcases h.t.2 with⟨hv,_⟩|⟨g',cap',cur',hv',_,hgg',_⟩
   ·rw[hv]at e;cases e
   ·rw[hv']at e;cases e;rw[hgg']at hgg;simp at hgg
 ·rcases List.mem_append.1 hy with hy|hy
  ·exact(h.tn y hy).keeps kk.l
  ·rw[List.mem_singleton.1 hy];exact hx.keeps kk.l
 ·rcases List.mem_append.1 hy with hy|hy
  ·exact h.tc y hy
  ·rw[List.mem_singleton.1 hy];exact hc
theorem KSt.addO{w w':World}{B:Nat}{vt vo vo':Value}{lt:List ThrV}{lo:List ObjV}{x:ObjV}(h:KSt w B vt vo lt lo)(ho:OwnOb w' B vo' (lo++[x]))(hg:w.grownBy w' vo.ownBlock)(hx:x.new B w)(hc:x.items.n≤x.items.k∧x.items.k≤maxLen):KSt w' B vt vo' lt (lo++[x])∧KeepsK w w':=by
 have kk:KeepsK w w':=⟨hg.size,fun k cs t hk _ h1=>hg.block k (Array.getElem?_eq_some_iff.1 hk).1 (fun e=>by
  rcases h.o.2 with⟨hv,_⟩|⟨g,cap,cur,hv,_,hgg,_⟩
  ·rw[hv]at e;cases e
  ·rw[hv]at e;cases e;rw[hgg]at hk;simp only[Option.some.injEq,Obj.cells.injEq,and_true]at hk;exact h1 hk.2.symm)⟩
 refine⟨⟨?_,ho,fun y hy=>(h.tn y hy).keeps kk.l,fun y hy=>?_,h.tc,fun y hy=>?_⟩,kk⟩
 ·refine⟨h.t.1,?_⟩;rcases h.t.2 with hn|⟨g,cap,cur,hv,hbg,hgg,rest⟩
  ·exact .inl hn
  ·refine .inr ⟨g,cap,cur,hv,hbg,?_,rest⟩;refine(hg.block g (Array.getElem?_eq_some_iff.1 hgg).1 (fun e=>?_)).trans hgg;rcases h.o.2 with⟨hv,_⟩|⟨g',cap',cur',hv',_,hgg',_⟩
   ·rw[hv]at e;cases e
   ·rw[hv']at e;cases e;rw[hgg']at hgg;simp at hgg
 ·rcases List.mem_append.1 hy with hy|hy
  ·exact(h.on y hy).keeps kk.l
  ·rw[List.mem_singleton.1 hy];exact hx.keeps kk.l
 ·rcases List.mem_append.1 hy with hy|hy
  ·exact h.oc y hy
  ·rw[List.mem_singleton.1 hy];exact hc
open Go.BigFrame Go.Shelf
theorem ker_results{F:Func}(tmps:Array Value)(W:World)(P n:Nat)(x y:Value)(hF:F.results=#[.cell n 27])(h:Blk W P (.cells #[x,y] 27))(h2:tmps[n]? =some (.pointer (some ⟨P,0,none⟩))):
 (results F tmps).run Tryz.prog W= .ok (.agg #[x,y]) W:=by
 obtain⟨z0,z1⟩:=h.two;simp[results,hF,go_sem,h2,z0,z1]
structure CpSt(w:World)(k:KerV)(wr:World)(vt vo:Value)(lt:List ThrV)(lo:List ObjV):Prop where
 st:KSt wr w.heap.size vt vo lt lo
 st1:∀i,i<lt.length→(k.T i).same (atOwnT lt i)
 so1:∀i,i<lo.length→(k.O i).same (atOwnOb lo i)
 a:Blk wr w.heap.size (.cells #[.slice k.ta k.tn k.tk,.slice k.oa k.on k.ok] 27)
 r:Blk wr (w.heap.size+1) (.cells #[.slice none 0 0,.slice none 0 0] 27)
 o:Blk wr (w.heap.size+1+1) (.cells #[vt,vo] 27)
 be:Below w.heap.size w wr
theorem CpSt.below{w:World}{k:KerV}{wr wr':World}{vt vo:Value}{lt:List ThrV}{lo:List ObjV}(h:CpSt w k wr vt vo lt lo)(hb:Below wr.heap.size wr wr'):CpSt w k wr' vt vo lt lo:=
 ⟨h.st.below hb,h.st1,h.so1,h.a.below hb,h.r.below hb,h.o.below hb,h.be.trans (hb.mono h.be.size)⟩
theorem atT_append{lt:List ThrV}{u:ThrV}:(∀i,i<lt.length→atOwnT (lt++[u]) i=atOwnT lt i)∧atOwnT (lt++[u]) lt.length=u:=⟨fun i hi=>by simp[atOwnT,List.getElem?_append,hi],by simp[atOwnT]⟩
theorem atO_append{lo:List ObjV}{u:ObjV}:(∀i,i<lo.length→atOwnOb (lo++[u]) i=atOwnOb lo i)∧atOwnOb (lo++[u]) lo.length=u:=⟨fun i hi=>by simp[atOwnOb,List.getElem?_append,hi],by simp[atOwnOb]⟩
theorem CpSt.addT{w:World}{k:KerV}{wr w':World}{a:Option Addr}{c:Nat}{vt vo:Value}{lt:List ThrV}{lo:List ObjV}{u:ThrV}(h:CpSt w k wr vt vo lt lo)(ho:OwnT w' w.heap.size (.slice a (lt.length+1) c) (lt++[u]))(hg:wr.grownBy w' vt.ownBlock)(hu:u.new w.heap.size wr)(hs:(k.T lt.length).same u)(hc:u.own.n≤u.own.k∧u.own.k≤maxLen):
 Blk w' (w.heap.size+1+1) (.cells #[vt,vo] 27)∧CpSt w k (w'.setCell ⟨w.heap.size+1+1,0,none⟩ (.slice a (lt.length+1) c)) (.slice a (lt.length+1) c) vo (lt++[u]) lo:=by
 obtain⟨k1,kk⟩:=h.st.addT ho hg hu hc;have o1:Blk w' (w.heap.size+1+1) (.cells #[vt,vo] 27):=kk.blk h.o (by decide) (by decide);have b1:Below w.heap.size wr w':=below_grown hg h.be.size (fun j e=>(World.ownsRow.lt h.st.t j e).1);refine⟨o1,k1.set o1 (.inl rfl) _,fun i hi=>?_,h.so1,(kk.blk h.a (by decide) (by decide)).other (by omega) _,(kk.blk h.r (by decide) (by decide)).other (by omega) _,o1.setAt (i:=0) _,(h.be.trans b1).setCell (by dsimp only;omega) _⟩;by_cases e:i<lt.length
 ·rw[atT_append.1 i e];exact h.st1 i e
 ·have:i=lt.length:=by simp at hi;omega
  rw[this,atT_append.2];exact hs
theorem CpSt.addO{w:World}{k:KerV}{wr w':World}{a:Option Addr}{c:Nat}{vt vo:Value}{lt:List ThrV}{lo:List ObjV}{u:ObjV}(h:CpSt w k wr vt vo lt lo)(ho:OwnOb w' w.heap.size (.slice a (lo.length+1) c) (lo++[u]))(hg:wr.grownBy w' vo.ownBlock)(hu:u.new w.heap.size wr)(hs:(k.O lo.length).same u)(hc:u.items.n≤u.items.k∧u.items.k≤maxLen):
 Blk w' (w.heap.size+1+1) (.cells #[vt,vo] 27)∧CpSt w k (w'.setCell ⟨w.heap.size+1+1,1,none⟩ (.slice a (lo.length+1) c)) vt (.slice a (lo.length+1) c) lt (lo++[u]):=by
 obtain⟨k1,kk⟩:=h.st.addO ho hg hu hc;have o1:Blk w' (w.heap.size+1+1) (.cells #[vt,vo] 27):=kk.blk h.o (by decide) (by decide);have b1:Below w.heap.size wr w':=below_grown hg h.be.size (fun j e=>(World.ownsRow.lt h.st.o j e).1);refine⟨o1,k1.set o1 (.inl rfl) _,h.st1,fun i hi=>?_,(kk.blk h.a (by decide) (by decide)).other (by omega) _,(kk.blk h.r (by decide) (by decide)).other (by omega) _,o1.setAt (i:=1) _,(h.be.trans b1).setCell (by dsimp only;omega) _⟩;by_cases e:i<lo.length
 ·rw[atO_append.1 i e];exact h.so1 i e
 ·have:i=lo.length:=by simp at hi;omega
  rw[this,atO_append.2];exact hs
theorem l3Copy_any(k:KerV)(w:World)(hk:k.at w)(hs:k.small):
 Calls Tryz.prog 81 #[k.val] w fun e w'=>∃(lt:List ThrV) (lo:List ObjV) (ta oa:Option Addr) (ca co:Nat),e= .returned (.agg #[.slice ta lt.length ca,.slice oa lo.length co])∧KSt w' w.heap.size (.slice ta lt.length ca) (.slice oa lo.length co) lt lo∧k.same (kOf ta ca oa co lt lo)∧Below w.heap.size w w':=by
 have HT:=hid hk.2.2.1;have HO:=hid hk.2.2.2;have SMALL:=hid hs;have n2:No (.cells #[.slice none 0 0,.slice none 0 0] 27):=⟨⟩;have n3:No (.cells #[.slice k.ta k.tn k.tk,.slice k.oa k.on k.ok] 27):=⟨⟩;have n4:Nw (((w.alloc n3).alloc n2).alloc n2):=⟨⟩;have b0:Below w.heap.size w n4:=(((Below.refl _ w).alloc (Nat.le_refl _) _).alloc (by simp) _).alloc (by simp;omega) _;have S0:Hid (CpSt w k n4 (.slice none 0 0) (.slice none 0 0) [] []):=hid ⟨⟨OwnT.nil _ _,OwnOb.nil _ _,fun x hx=>absurd hx List.not_mem_nil,fun x hx=>absurd hx List.not_mem_nil,fun x hx=>absurd hx List.not_mem_nil,fun x hx=>absurd hx List.not_mem_nil⟩,fun i hi=>absurd hi (Nat.not_lt_zero i),fun i hi=>absurd hi (Nat.not_lt_zero i),((Blk.new w n3).alloc _).alloc _,(by have:=(Blk.new (w.alloc n3) n2).alloc n2;simpa using this),(by have:=Blk.new ((w.alloc n3).alloc n2) n2;simpa using this),b0⟩;clear hk hs b0;unfold KerV.val;go_enter Tryz.func81,Tryz.ntmps81
 go_wp2;go_loopw [4] (fun i wr=>∃(lt:List ThrV) (ta:Option Addr) (ca:Nat),lt.length≤k.tn∧i= .int .i64 lt.length∧CpSt w k wr (.slice ta lt.length ca) (.slice none 0 0) lt []) (fun i _=>k.tn-(intOf i).toNat)
 case atStart=>exact⟨[],none,0,Nat.zero_le _,rfl,S0.out⟩
 case round=>
  clear S0;obtain⟨lt,ta,ca,hl,rfl,st⟩:=hrel;have S1:=hid st;clear st;by_cases hlt:lt.length<k.tn
  ·have i1:(lt.length:Int)<(k.tn:Int):=(by omega);have i0:(0:Int)≤(lt.length:Int):=(by omega);obtain⟨b,off,ea,hbl,hc⟩:=HT.out (by omega);have bd:Below wr.heap.size wr wr.drew:=(Below.refl _ wr).drew;have SD:=hid (S1.out.below bd);have CC:Cells7 wr.drew b (off+lt.length*7) (k.T lt.length):=(hc lt.length hlt).1.below hbl ((Below.refl _ w).trans (SD.out.be.mono (Nat.le_refl _)));have q0:wr.drew.cell? ⟨b,off+lt.length*7,none⟩=some (.int .i64 (k.T lt.length).id):=CC.c0;have q1:wr.drew.cell? ⟨b,off+lt.length*7+1,none⟩=some (.int .i64 (k.T lt.length).b1):=CC.c1;have q2:wr.drew.cell? ⟨b,off+lt.length*7+2,none⟩=some (.slice (k.T lt.length).c1.a (k.T lt.length).c1.n (k.T lt.length).c1.k):=CC.c2;have q3:wr.drew.cell? ⟨b,off+lt.length*7+3,none⟩=some (.int .i64 (k.T lt.length).b2):=CC.c3;have q4:wr.drew.cell? ⟨b,off+lt.length*7+4,none⟩=some (.slice (k.T lt.length).c2.a (k.T lt.length).c2.n (k.T lt.length).c2.k):=CC.c4;have q5:wr.drew.cell? ⟨b,off+lt.length*7+5,none⟩=some (.slice (k.T lt.length).own.a (k.T lt.length).own.n (k.T lt.length).own.k):=CC.c5;have q6:wr.drew.cell? ⟨b,off+lt.length*7+6,none⟩=some (.int .i64 (k.T lt.length).made):=CC.c6;have hbw:b<wr.heap.size:=Nat.lt_of_lt_of_le hbl S1.out.be.size;obtain⟨a0,a1⟩:=S1.out.a.two;obtain⟨x0,x1⟩:=SD.out.a.two;obtain⟨y0,y1⟩:=SD.out.o.two;have CP:Hid (Calls Tryz.prog 115 #[.agg #[.int .i64 (k.T lt.length).id,.int .i64 (k.T lt.length).b1,.slice (k.T lt.length).c1.a (k.T lt.length).c1.n (k.T lt.length).c1.k,.int .i64 (k.T lt.length).b2,.slice (k.T lt.length).c2.a (k.T lt.length).c2.n (k.T lt.length).c2.k,.slice (k.T lt.length).own.a (k.T lt.length).own.n (k.T lt.length).own.k,.int .i64 (k.T lt.length).made]] wr.drew fun e w'=>∃v,e= .returned v∧(∃u:ThrV,v= .agg #[.int .i64 u.id,.int .i64 u.b1,.slice u.c1.a u.c1.n u.c1.k,.int .i64 u.b2,.slice u.c2.a u.c2.n u.c2.k,.slice u.own.a u.own.n u.own.k,.int .i64 u.made]∧(k.T lt.length).same u∧u.new wr.drew.heap.size w'∧(u.own.n≤u.own.k∧u.own.k≤maxLen)∧Below wr.drew.heap.size wr.drew w')):=hid ((l3CopyThread_cap (k.T lt.length) wr.drew ((hc lt.length hlt).2.below SD.out.be) (SMALL.out.1.2 lt.length hlt)).mono fun _ _ ⟨u,e1,h1,h2,h3,h4⟩=>⟨_,e1,u,rfl,h1,h2,h3,h4⟩);have EG:Hid (∀args w,(callFunc 115 args).run Tryz.prog w= .ok (.enter 115 args) w):=hid (enters_of Tryz.func115 (by kernel_rfl) rfl);have lm:lt.length≤1048576:=(by have:=SMALL.out.1.1;omega);rw[ea]at a0 x0;clear hc CC ea bd;have sz0:=S1.out.be.size;go_wp2_with fail
   go_region_law(first
    |(refine step_call (by rfl) 115 _ _ (by rfl) EG.out _ (by rfl) _ CP.out ?_;rintro v w5 ⟨u,rfl,su,nu,cu,b5⟩;have CU:=hid cu;have S5:=hid (SD.out.below b5);have S5a:=hid ((SD.out.below b5).below ((Below.refl _ w5).alloc (Nat.le_refl _) (.cells #[.int .i64 u.id,.int .i64 u.b1,.slice u.c1.a u.c1.n u.c1.k,.int .i64 u.b2,.slice u.c2.a u.c2.n u.c2.k,.slice u.own.a u.own.n u.own.k,.int .i64 u.made] 42)));have N5:=hid ((nu.low SD.out.be.size).keeps (KeepsK.of_below ((Below.refl _ w5).alloc (Nat.le_refl _) (.cells #[.int .i64 u.id,.int .i64 u.b1,.slice u.c1.a u.c1.n u.c1.k,.int .i64 u.b2,.slice u.c2.a u.c2.n u.c2.k,.slice u.own.a u.own.n u.own.k,.int .i64 u.made] 42))).l);have SU:=hid su;have ONE:Hid (LiesC (w5.alloc (.cells #[.int .i64 u.id,.int .i64 u.b1,.slice u.c1.a u.c1.n u.c1.k,.int .i64 u.b2,.slice u.c2.a u.c2.n u.c2.k,.slice u.own.a u.own.n u.own.k,.int .i64 u.made] 42)) (some ⟨w5.heap.size,0,none⟩) 1 (cells7 [u])):=hid (OwnT.one w5 u);have s5:w.heap.size≤(w5.alloc (.cells #[.int .i64 u.id,.int .i64 u.b1,.slice u.c1.a u.c1.n u.c1.k,.int .i64 u.b2,.slice u.c2.a u.c2.n u.c2.k,.slice u.own.a u.own.n u.own.k,.int .i64 u.made] 42)).heap.size:=S5a.out.be.size;obtain⟨m0,m1⟩:=S5.out.o.two;obtain⟨n0,n1⟩:=S5a.out.o.two;clear su nu b5 cu)
    |(refine step_appendOwnT (by rfl) _ _ (by rfl) w.heap.size (.slice ta lt.length ca) lt (by rfl) S5a.out.st.t _ _ u (by rfl) ONE.out lm s5 ?_;intro a7 c7 w7 o7 g7;have AD:=S5a.out.addT o7 g7 N5.out SU.out CU.out;have S7:=hid AD.2;obtain⟨z0,z1⟩:=AD.1.two;have zf:=AD.1.warm;clear AD o7 g7))
   all_goals(
    clear m0 m1 n0 n1 x0 x1 y0 y1 q0 q1 q2 q3 q4 q5 q6 a0 a1;go_wp2;go_roundw;case rel=>exact⟨lt++[u],a7,c7,by simp;omega,by first|go_num|(congr 1;simp),by rw[show(lt++[u]).length=lt.length+1 from by simp];exact S7.out⟩
    case measure=>simp[intOf];omega)
  ·have i1:¬(lt.length:Int)<(k.tn:Int):=(by omega);have ET:Hid (lt.length=k.tn):=hid (by omega);obtain⟨a0,a1⟩:=S1.out.a.two;have ST:=S1;clear S1;go_wp2;clear a0 a1 i1 hlt hl;go_loopw [5] (fun i wr=>∃(lo:List ObjV) (oa:Option Addr) (co:Nat),lo.length≤k.on∧i= .int .i64 lo.length∧CpSt w k wr (.slice ta lt.length ca) (.slice oa lo.length co) lt lo) (fun i _=>k.on-(intOf i).toNat)
   case atStart=>exact⟨[],none,0,Nat.zero_le _,rfl,ST.out⟩
   case round=>
    clear ST;obtain⟨lo,oa,co,hl,rfl,st⟩:=hrel;have S1:=hid st;clear st;by_cases hlt:lo.length<k.on
    ·have i1:(lo.length:Int)<(k.on:Int):=(by omega);have i0:(0:Int)≤(lo.length:Int):=(by omega);obtain⟨b,off,ea,hbl,hc⟩:=HO.out (by omega);have bd:Below wr.heap.size wr wr.drew:=(Below.refl _ wr).drew;have SD:=hid (S1.out.below bd);have CC:Cells10 wr.drew b (off+lo.length*10) (k.O lo.length):=(hc lo.length hlt).1.below hbl ((Below.refl _ w).trans (SD.out.be.mono (Nat.le_refl _)));have q0:wr.drew.cell? ⟨b,off+lo.length*10,none⟩=some (.int .i64 (k.O lo.length).id):=CC.c0;have q1:wr.drew.cell? ⟨b,off+lo.length*10+1,none⟩=some (.int .i64 (k.O lo.length).kind):=CC.c1;have q2:wr.drew.cell? ⟨b,off+lo.length*10+2,none⟩=some (.int .i64 (k.O lo.length).up):=CC.c2;have q3:wr.drew.cell? ⟨b,off+lo.length*10+3,none⟩=some (.int .i64 (k.O lo.length).b1):=CC.c3;have q4:wr.drew.cell? ⟨b,off+lo.length*10+4,none⟩=some (.slice (k.O lo.length).c1.a (k.O lo.length).c1.n (k.O lo.length).c1.k):=CC.c4;have q5:wr.drew.cell? ⟨b,off+lo.length*10+5,none⟩=some (.string (k.O lo.length).data):=CC.c5;have q6:wr.drew.cell? ⟨b,off+lo.length*10+6,none⟩=some (.slice (k.O lo.length).items.a (k.O lo.length).items.n (k.O lo.length).items.k):=CC.c6;have q7:wr.drew.cell? ⟨b,off+lo.length*10+7,none⟩=some (.slice (k.O lo.length).own.a (k.O lo.length).own.n (k.O lo.length).own.k):=CC.c7;have q8:wr.drew.cell? ⟨b,off+lo.length*10+8,none⟩=some (.int .i64 (k.O lo.length).b2):=CC.c8;have q9:wr.drew.cell? ⟨b,off+lo.length*10+9,none⟩=some (.slice (k.O lo.length).c2.a (k.O lo.length).c2.n (k.O lo.length).c2.k):=CC.c9;have hbw:b<wr.heap.size:=Nat.lt_of_lt_of_le hbl S1.out.be.size;obtain⟨a0,a1⟩:=S1.out.a.two;obtain⟨x0,x1⟩:=SD.out.a.two;obtain⟨y0,y1⟩:=SD.out.o.two;have CP:Hid (Calls Tryz.prog 116 #[.agg #[.int .i64 (k.O lo.length).id,.int .i64 (k.O lo.length).kind,.int .i64 (k.O lo.length).up,.int .i64 (k.O lo.length).b1,.slice (k.O lo.length).c1.a (k.O lo.length).c1.n (k.O lo.length).c1.k,.string (k.O lo.length).data,.slice (k.O lo.length).items.a (k.O lo.length).items.n (k.O lo.length).items.k,.slice (k.O lo.length).own.a (k.O lo.length).own.n (k.O lo.length).own.k,.int .i64 (k.O lo.length).b2,.slice (k.O lo.length).c2.a (k.O lo.length).c2.n (k.O lo.length).c2.k]] wr.drew fun e w'=>∃v,e= .returned v∧(∃u:ObjV,v= .agg #[.int .i64 u.id,.int .i64 u.kind,.int .i64 u.up,.int .i64 u.b1,.slice u.c1.a u.c1.n u.c1.k,.string u.data,.slice u.items.a u.items.n u.items.k,.slice u.own.a u.own.n u.own.k,.int .i64 u.b2,.slice u.c2.a u.c2.n u.c2.k]∧(k.O lo.length).same u∧u.new wr.drew.heap.size w'∧(u.items.n≤u.items.k∧u.items.k≤maxLen)∧Below wr.drew.heap.size wr.drew w')):=hid ((l3CopyObject_cap (k.O lo.length) wr.drew ((hc lo.length hlt).2.below SD.out.be) (SMALL.out.2.2 lo.length hlt)).mono fun _ _ ⟨u,e1,h1,h2,h3,h4⟩=>⟨_,e1,u,rfl,h1,h2,h3,h4⟩);have EG:Hid (∀args w,(callFunc 116 args).run Tryz.prog w= .ok (.enter 116 args) w):=hid (enters_of Tryz.func116 (by kernel_rfl) rfl);have lm:lo.length≤1048576:=(by have:=SMALL.out.2.1;omega);rw[ea]at a1 x1;clear hc CC ea bd;have sz0:=S1.out.be.size;go_wp2_with fail
     go_region_law(first
      |(refine step_call (by rfl) 116 _ _ (by rfl) EG.out _ (by rfl) _ CP.out ?_;rintro v w5 ⟨u,rfl,su,nu,cu,b5⟩;have CU:=hid cu;have S5:=hid (SD.out.below b5);have S5a:=hid ((SD.out.below b5).below ((Below.refl _ w5).alloc (Nat.le_refl _) (.cells #[.int .i64 u.id,.int .i64 u.kind,.int .i64 u.up,.int .i64 u.b1,.slice u.c1.a u.c1.n u.c1.k,.string u.data,.slice u.items.a u.items.n u.items.k,.slice u.own.a u.own.n u.own.k,.int .i64 u.b2,.slice u.c2.a u.c2.n u.c2.k] 47)));have N5:=hid ((nu.low SD.out.be.size).keeps (KeepsK.of_below ((Below.refl _ w5).alloc (Nat.le_refl _) (.cells #[.int .i64 u.id,.int .i64 u.kind,.int .i64 u.up,.int .i64 u.b1,.slice u.c1.a u.c1.n u.c1.k,.string u.data,.slice u.items.a u.items.n u.items.k,.slice u.own.a u.own.n u.own.k,.int .i64 u.b2,.slice u.c2.a u.c2.n u.c2.k] 47))).l);have SU:=hid su;have ONE:Hid (LiesC (w5.alloc (.cells #[.int .i64 u.id,.int .i64 u.kind,.int .i64 u.up,.int .i64 u.b1,.slice u.c1.a u.c1.n u.c1.k,.string u.data,.slice u.items.a u.items.n u.items.k,.slice u.own.a u.own.n u.own.k,.int .i64 u.b2,.slice u.c2.a u.c2.n u.c2.k] 47)) (some ⟨w5.heap.size,0,none⟩) 1 (cells10 [u])):=hid (OwnOb.one w5 u);have s5:w.heap.size≤(w5.alloc (.cells #[.int .i64 u.id,.int .i64 u.kind,.int .i64 u.up,.int .i64 u.b1,.slice u.c1.a u.c1.n u.c1.k,.string u.data,.slice u.items.a u.items.n u.items.k,.slice u.own.a u.own.n u.own.k,.int .i64 u.b2,.slice u.c2.a u.c2.n u.c2.k] 47)).heap.size:=S5a.out.be.size;obtain⟨m0,m1⟩:=S5.out.o.two;obtain⟨n0,n1⟩:=S5a.out.o.two;clear su nu b5 cu)
      |(refine step_appendOwnOb (by rfl) _ _ (by rfl) w.heap.size (.slice oa lo.length co) lo (by rfl) S5a.out.st.o _ _ u (by rfl) ONE.out lm s5 ?_;intro a7 c7 w7 o7 g7;have AD:=S5a.out.addO o7 g7 N5.out SU.out CU.out;have S7:=hid AD.2;obtain⟨z0,z1⟩:=AD.1.two;have zf:=AD.1.warm;clear AD o7 g7))
     all_goals(
      clear m0 m1 n0 n1 x0 x1 y0 y1 q0 q1 q2 q3 q4 q5 q6 q7 q8 q9 a0 a1;go_wp2;go_roundw;case rel=>exact⟨lo++[u],a7,c7,by simp;omega,by first|go_num|(congr 1;simp),by rw[show(lo++[u]).length=lo.length+1 from by simp];exact S7.out⟩
      case measure=>simp[intOf];omega)
    ·have el:lo.length=k.on:=(by omega);have i1:¬(lo.length:Int)<(k.on:Int):=(by omega);have EL:=hid el;obtain⟨a0,a1⟩:=S1.out.a.two;obtain⟨y0,y1⟩:=S1.out.o.two;obtain⟨r0,r1⟩:=S1.out.r.two;have rf:=S1.out.r.warm;clear el;go_wp2;refine bodyPost_ret (ker_results _ _ (w.heap.size+1) 2 _ _ Tryz.results81 ((S1.out.r.setAt (i:=0) _).setAt (i:=1) _) rfl) rfl ⟨lt,lo,ta,oa,ca,co,rfl,(S1.out.st.set S1.out.r (.inl rfl) _).set (S1.out.r.setAt (i:=0) _) (.inl rfl) _,⟨ET.out,fun j hj=>S1.out.st1 j (by rw[ET.out];exact hj),EL.out,fun j hj=>S1.out.so1 j (by rw[EL.out];exact hj)⟩,?_⟩;exact(S1.out.be.setCell (by dsimp only;omega) _).setCell (by dsimp only;omega) _
end Go.Proofs.YtallmkehpfaaeaaGreatDoor
