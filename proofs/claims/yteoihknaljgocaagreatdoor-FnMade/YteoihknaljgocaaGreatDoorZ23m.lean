import Derived.Test.YteoihknaljgocaaGreatDoorZ22m
set_option maxRecDepth 100000
set_option maxHeartbeats 16000000
namespace Go.Proofs.YteoihknaljgocaaGreatDoor
open Go Go.RowKit Go.Deep Go.Maps Go.Shelf
section
variable {w w':World}{B:Nat}{row:Option Nat}
theorem Ar.new.jY{c:Ar}(h:c.new B w)(hr:∀b,row=some b->∃m F,w.rowIs b 9 m F)(hg:w.grownBy w' row):c.new B w':=h.of hg.size (fun b' e hn=>by
 obtain⟨b'',m',F',e',_,_,hr'⟩:=h.2 hn;rw[e]at e';cases e';refine hg.block b' hr'.lt (fun ee=>?_);obtain⟨m,F,h9⟩:=hr b' ee.symm;exact Fj hr' h9 (by decide) rfl)
theorem AJ.new.jY{c:AJ}(h:c.new B w)(hr:∀b,row=some b->∃m F,w.rowIs b 9 m F)(hg:w.grownBy w' row):c.new B w':=h.of hg.size (fun b' e hn=>by
 obtain⟨b'',m',F',e',_,_,hr'⟩:=h.2 hn;rw[e]at e';cases e';refine hg.block b' hr'.lt (fun ee=>?_);obtain⟨m,F,h9⟩:=hr b' ee.symm;exact Fj hr' h9 (by decide) rfl)
theorem AH.new.jY{c:AH}(h:c.new B w)(hr:∀b,row=some b->b∉c.bs)(hg:w.grownBy w' row):c.new B w':=h.of hg.size (fun b' e h0=>by
 obtain⟨b'',m',F',e',_,_,hr'⟩:=h.2 h0;rw[e]at e';cases e';refine hg.block b' hr'.lt (fun ee=>hr b' ee.symm ?_);unfold AH.bs;rw[if_pos h0,e];simp)
end
theorem BJ.itemRow{w w':World}{B q co:Nat}{vt:Value}{row:Option Nat}{lt:List Ae}{lo:List Ab}(h:BJ w B vt (.slice q lo.length co) lt lo)(ha:Apart lt lo){u:Nat}(hu:u<lo.length){O:Ab}(hO:O=lo[u])(hr:∀b,row=some b->b∈O.jA.bs/\∃m F,w.rowIs b 9 m F)(hg:w.grownBy w' row){d:AH}(hd:d.new B w')(hdc:d.n<=d.k/\d.k<=maxLen):
 BJ (w'.setCell ⟨q,u*10+6,none⟩ (.slice d.a d.n d.k)) B vt (.slice q lo.length co) lt (lo.set u ⟨O.id,O.kind,O.up,O.b1,O.c1,O.data,d,O.own,O.b2,O.c2⟩)/\(∃cur,Ag w' q (.cells cur 44))/\B<=q:=by
 have hx:=h.on _ (List.getElem_mem hu);rw[<-hO]at hx;have h9:∀b,row=some b->∃m F,w.rowIs b 9 m F:=fun b e=>(hr b e).2;have other:∀{v:Value}{ty:TypeId}{sz n:Nat}{cs:List Value},w.ownsRow B ty sz v n cs->ty≠9->v.ownBlock=none∨v.ownBlock≠row:=fun{v ty sz n cs} ho hty=>by
  rcases ho.2 with⟨hv,_⟩|⟨g',cap,cur,hv,_,hgg,_⟩
  ·exact .inl (by rw[hv];rfl)
  ·refine .inr (fun e=>hty ?_);rw[hv]at e;obtain⟨m,F,c,hc,_⟩:=h9 g' (by rw[<-e];rfl);rw[hgg]at hc;simp at hc;exact hc.2
 have it:(lo.map fun x=>x.jA.bs)[u]? =some O.jA.bs:=by simp[hu,hO]
 have kt:Dq w' B vt lt:=World.ownsRow.kept h.t hg (other h.t (by decide));have ko:AO w' B (.slice q lo.length co) lo:=World.ownsRow.kept h.o hg (other h.o (by decide));have ton:∀y∈lt,y.new B w':=fun y hy=>⟨(h.tn y hy).1.jY h9 hg,(h.tn y hy).2.1.jY h9 hg,(h.tn y hy).2.2.jY h9 hg⟩;have oon:∀j (hj:j<lo.length),j≠u->(lo[j]).new B w':=fun j hj ne=>by
  have hy:=h.on _ (List.getElem_mem hj);refine⟨hy.1.jY h9 hg,hy.2.1.jY (fun b e hb=>?_) hg,hy.2.2.1.jY h9 hg,hy.2.2.2.jY h9 hg⟩;exact MK ha.s (i:=j) (j:=u) (by simp[hj]) it ne hb (hr b e).1
 obtain⟨cur,hcur⟩:∃cur,Ag w' q (.cells cur 44):=by
  rcases ko.2 with⟨hv,_⟩|⟨g',cap,cur,hv,_,hgg,_⟩
  ·cases hv
  ·cases hv;exact⟨cur,hgg⟩
 have hBg:B<=q:=(World.ownsRow.lt ko q rfl).1;have kl:=Au (i:=u*10+6) hcur (by decide) (.slice d.a d.n d.k);have ho:=(World.ownsRow.stored ko (u*10+6) (.slice d.a d.n d.k)).1;have hxn:(⟨O.id,O.kind,O.up,O.b1,O.c1,O.data,d,O.own,O.b2,O.c2⟩:Ab).new B w':=⟨hx.1.jY h9 hg,hd,hx.2.2.1.jY h9 hg,hx.2.2.2.jY h9 hg⟩;refine⟨⟨kt.set hcur (by decide) _,?_,fun y hy=>(ton y hy).keeps kl,fun y hy=>?_,h.tc,fun y hy=>?_⟩,⟨cur,hcur⟩,hBg⟩
 ·unfold AO;have e:=Dd (f:=Ab.cs) Ab.jK (l:=lo) (t:=u) (x:=(⟨O.id,O.kind,O.up,O.b1,O.c1,O.data,d,O.own,O.b2,O.c2⟩:Ab)) (u:= .slice d.a d.n d.k) (i:=6) hu (by omega) (by rw[<-hO];rfl);have el:(lo.set u (⟨O.id,O.kind,O.up,O.b1,O.c1,O.data,d,O.own,O.b2,O.c2⟩:Ab)).length=lo.length:=by simp
  rw[el];unfold Ax;rw[<-e];exact ho
 ·obtain⟨j,hj,rfl⟩:=List.getElem_of_mem hy;rw[List.getElem_set];split
  ·exact hxn.keeps kl
  ·exact(oon j (by simpa using hj) (by omega)).keeps kl
 ·rcases Eu hy with rfl|hy
  ·exact hdc
  ·exact h.oc y hy
theorem Ex.itemRow{w w':World}{B P:Nat}{s:Al}{g ca q co:Nat}{lt:List Ae}{lo:List Ab}{t:Nat}{m:Value}{row:Option Nat}(h:Ex w B P s g ca q co lt lo t m){u:Nat}(hu:u<lo.length){O:Ab}(hO:O=lo[u])(hr:∀b,row=some b->b∈O.jA.bs/\∃m F,w.rowIs b 9 m F)(hg:w.grownBy w' row){d:AH}(hd:d.new B w')(hdc:d.n<=d.k/\d.k<=maxLen)(hdb:∀b∈d.bs,b∈O.jA.bs∨w.heap.size<=b):
 Ex (w'.setCell ⟨q,u*10+6,none⟩ (.slice d.a d.n d.k)) B P s g ca q co lt (lo.set u ⟨O.id,O.kind,O.up,O.b1,O.c1,O.data,d,O.own,O.b2,O.c2⟩) t m/\(∃cur,Ag w' q (.cells cur 44))/\B<=q/\Ag w' P (.cells (Ie s g lt.length ca q lo.length co t m) 100)/\(∀b,row=some b->B<=b/\b≠q/\b≠P):=by
 obtain⟨k1,hcu,hBg⟩:=h.st.itemRow h.ap hu hO hr hg hd hdc;have el:(lo.set u (⟨O.id,O.kind,O.up,O.b1,O.c1,O.data,d,O.own,O.b2,O.c2⟩:Ab)).length=lo.length:=by simp
 have hn:O.cb.Nodup:=Dj (L:=lo.map Ab.cb) (S:=(lt.map Ae.cb).flatten) (t:=u) (by simp[hu,hO]) (List.perm_append_comm.nodup_iff.2 h.ap.c);have hi:O.own.bs.Nodup:=Dj (L:=lo.map fun x=>x.own.bs) (S:=(lt.map fun x=>x.own.bs).flatten) (t:=u) (by simp[hu,hO]) (List.perm_append_comm.nodup_iff.2 h.ap.i);have hx:=h.st.on _ (List.getElem_mem hu);rw[<-hO]at hx;have rw_:∀b,row=some b->B<=b/\b≠q/\b≠P:=fun b e=>by
  obtain⟨h1,m',F,c,hc,_⟩:=hr b e;refine⟨(hx.2.1.bs.2 b h1).1,fun e'=>?_,fun e'=>?_⟩
  ·rcases h.st.o.2 with⟨hv,_⟩|⟨g',cap,cur',hv,_,hgg,_⟩
   ·cases hv
   ·cases hv;rw[<-e',hc]at hgg;simp at hgg
  ·have hw:=h.wk;unfold Ag at hw;rw[<-e',hc]at hw;simp at hw
 have wk:Ag w' P (.cells (Ie s g lt.length ca q lo.length co t m) 100):=h.wk.grown hg (fun e=>(rw_ P e.symm).2.2 rfl);exact⟨⟨by rw[el];exact k1,h.ap.setO h.st hu (x:=⟨O.id,O.kind,O.up,O.b1,O.c1,O.data,d,O.own,O.b2,O.c2⟩) hn (fun b hb=> .inl (by rw[<-hO];exact hb)) hi (fun b hb=> .inl (by rw[<-hO];exact hb)) hd.bs.1 (fun b hb=>by rw[<-hO];exact hdb b hb),by rw[el];exact wk.other (Ne.symm h.setQ) _,h.lp⟩,hcu,hBg,wk,rw_⟩
def AH.jH(B:Nat)(w:World)(c:AH):Prop:=c.at w/\(0<c.n->∃b off m F,c.a=some ⟨b,off,none⟩/\B<=b/\off+c.n<=m/\w.rowIs b 9 m F)
theorem AH.new.f{B:Nat}{w:World}{c:AH}(h:c.new B w):c.jH B w:=⟨h.1,fun h0=>by
 obtain⟨b,m,F,e,h1,h2,h3⟩:=h.2 h0;exact⟨b,0,m,F,e,h1,by omega,h3⟩⟩
theorem AH.jH.of{B:Nat}{w w':World}{c:AH}(h:c.jH B w)(hs:w.heap.size<=w'.heap.size)(hb:∀b∈c.bs,w'.heap[b]? =w.heap[b]?):c.jH B w':=
 ⟨⟨h.1.1,fun hn=>by
   obtain⟨b,off,e,hlt,hc⟩:=h.1.2.1 hn;have hm:b∈c.bs:=(by unfold AH.bs;rw[if_pos hn,e];simp);exact⟨b,off,e,Nat.lt_of_lt_of_le hlt hs,fun i hi=>by rw[World.cell?_of_block (a:=⟨b,off+i,none⟩) (hb b hm)];exact hc i hi⟩,h.1.2.2⟩,fun hn=>by
   obtain⟨b,off,m,F,e,h1,h2,h3⟩:=h.2 hn;have hm:b∈c.bs:=(by unfold AH.bs;rw[if_pos hn,e];simp);exact⟨b,off,m,F,e,h1,h2,h3.of_block (hb b hm)⟩⟩
theorem AH.jH.lt{B:Nat}{w:World}{c:AH}(h:c.jH B w):∀b∈c.bs,B<=b/\b<w.heap.size:=fun b hb=>by
 unfold AH.bs at hb;split at hb
 ·rename_i h0;obtain⟨b',off,m,F,e,h1,_,h3⟩:=h.2 h0;rw[e]at hb;rw[List.mem_singleton.1 hb];exact⟨h1,h3.lt⟩
 ·cases hb
theorem AH.jH.below{B:Nat}{w w':World}{c:AH}(h:c.jH B w)(hb:Below w w w'):c.jH B w':=h.of hb.size (fun b hm=>hb.block b (h.lt b hm).2)
def Ab.jH(B:Nat)(w:World)(t:Ab):Prop:=t.c1.new B w/\t.jA.jH B w/\t.own.new B w/\t.c2.new B w
theorem Ab.jH.at{B:Nat}{w:World}{t:Ab}(h:t.jH B w)(hd:t.data.size<=maxLen):t.at w:=⟨h.1.1,h.2.1.1,h.2.2.1.1,h.2.2.2.1,hd⟩
structure Hy(w:World)(B:Nat)(vt vo:Value)(lt:List Ae)(lo:List Ab):Prop where
 t:Dq w B vt lt
 o:AO w B vo lo
 tn:∀x∈lt,x.new B w
 on:∀x∈lo,x.jH B w
theorem BJ.f{w:World}{B:Nat}{vt vo:Value}{lt:List Ae}{lo:List Ab}(h:BJ w B vt vo lt lo):Hy w B vt vo lt lo:=⟨h.t,h.o,h.tn,fun x hx=>⟨(h.on x hx).1,(h.on x hx).2.1.f,(h.on x hx).2.2⟩⟩
theorem Hy.below{w w':World}{B:Nat}{vt vo:Value}{lt:List Ae}{lo:List Ab}(h:Hy w B vt vo lt lo)(hb:Below w w w'):Hy w' B vt vo lt lo:=
 ⟨h.t.below hb,h.o.below hb,fun x hx=>(h.tn x hx).keeps (Da.of_below hb).l,fun x hx=>⟨(h.on x hx).1.below hb,(h.on x hx).2.1.below hb,(h.on x hx).2.2.1.below hb,(h.on x hx).2.2.2.below hb⟩⟩
structure M6(wr:World)(B P:Nat)(s:Al)(g ca q co:Nat)(lt:List Ae)(lo:List Ab)(t:Nat)(m:Value):Prop where
 st:Hy wr B (.slice g lt.length ca) (.slice q lo.length co) lt lo
 ap:Apart lt lo
 wk:Ag wr P (.cells (Ie s g lt.length ca q lo.length co t m) 100)
theorem Ex.f{wr:World}{B P:Nat}{s:Al}{g ca q co:Nat}{lt:List Ae}{lo:List Ab}{t:Nat}{m:Value}(h:Ex wr B P s g ca q co lt lo t m):M6 wr B P s g ca q co lt lo t m:=⟨h.st.f,h.ap,h.wk⟩
theorem M6.below{wr w':World}{B P:Nat}{s:Al}{g ca q co:Nat}{lt:List Ae}{lo:List Ab}{t:Nat}{m:Value}(h:M6 wr B P s g ca q co lt lo t m)(hb:Below wr wr w'):M6 w' B P s g ca q co lt lo t m:=⟨h.st.below hb,h.ap,h.wk.below hb⟩
open Go.BigFrame Go.Proofs.Tryz
theorem OT(tmps:Array Value)(W:World)(P:Nat)(x y:Value)(h:Ag W P (.cells #[x,y] 30))(h2:tmps[2]? =some (.pointer P)):
 (results Tryz.f147 tmps).run prog W= .ok (.agg #[x,y]) W:=by
 obtain⟨z0,z1⟩:=h.two;simp[results,Tryz.results147,go_sem,h2,z0,z1]
theorem Lc(q j:Nat)(b:Int)(c:Ar)(w:World)(hq:q<w.heap.size)(h3:w.cell? ⟨q,j+3,none⟩=some (.int .i64 b))(h4:w.cell? ⟨q,j+3+1,none⟩=some (.slice c.a c.n c.k)):
 Calls prog 147 #[.agg #[.pointer (some ⟨q,j,none⟩)]] w fun e w'=>e= .returned (.agg #[.int .i64 b,c])/\Below w w w':=by
 have n1:Nw (w.alloc (.cells #[.pointer (some ⟨q,j,none⟩)] 187)):=⟨⟩;have n2:No (.cells #[.int .i64 0,.slice none 0 0] 30):=⟨⟩;have b0:Below w w ((n1:World).alloc n2):=(Bf w _).alloc (by simp) _;have R0:Ag ((n1:World).alloc n2) (w.heap.size+1) n2:=by
  have:=Ag.new n1 n2;simpa using this
 have e3:=(b0.cell (p:=⟨q,j+3,none⟩) hq).trans h3;have e4:=(b0.cell (p:=⟨q,j+3+1,none⟩) hq).trans h4;obtain⟨r0,r1⟩:=R0.two;have rf:=R0.jC;clear R0 b0;go_enter func147,ntmps147
 go_wp2;refine bodyPost_ret (OT _ _ (w.heap.size+1) (.int .i64 b) (.slice c.a c.n c.k) (by have:=Ag.new n1 (.cells #[.int .i64 b,c] 30);simpa using this) rfl) rfl ⟨rfl,?_⟩;exact(Bf w _).alloc (by simp) _
theorem YB(x:TypeId)(w:World):(Instr.typeAssert .nilIface x 189 true).run prog w= .ok (.tuple #[.agg #[.pointer none],.bool false]) w:=by
 have hu:∀w,(underlying 189).run prog w= .ok _ w:=fun w=>by simp[underlying,go_sem,underlying189];rfl
 simp[Instr.typeAssert,go_sem,hu,zeroValue189]
theorem Qz(x:TypeId)(v:Value)(w:World):(Instr.typeAssert (.iface 189 v) x 189 true).run prog w= .ok (.tuple #[v,.bool true]) w:=by
 have hu:∀w,(underlying 189).run prog w= .ok _ w:=fun w=>by simp[underlying,go_sem,underlying189];rfl
 simp[Instr.typeAssert,go_sem,hu]
theorem QH(x:TypeId)(t:TypeId)(v:Value)(w:World)(h:t≠189):(Instr.typeAssert (.iface t v) x 189 true).run prog w= .ok (.tuple #[.agg #[.pointer none],.bool false]) w:=by
 have hu:∀w,(underlying 189).run prog w= .ok _ w:=fun w=>by simp[underlying,go_sem,underlying189];rfl
 simp[Instr.typeAssert,go_sem,hu,zeroValue189,h]
theorem YW(x:TypeId)(v:Value)(w:World):(Instr.typeAssert (.iface 191 v) x 191 true).run prog w= .ok (.tuple #[v,.bool true]) w:=by
 have hu:∀w,(underlying 191).run prog w= .ok _ w:=fun w=>by simp[underlying,go_sem,underlying191];rfl
 simp[Instr.typeAssert,go_sem,hu]
theorem XH(x:TypeId)(t:TypeId)(v:Value)(w:World)(h:t≠191):(Instr.typeAssert (.iface t v) x 191 true).run prog w= .ok (.tuple #[.agg #[.pointer none],.bool false]) w:=by
 have hu:∀w,(underlying 191).run prog w= .ok _ w:=fun w=>by simp[underlying,go_sem,underlying191];rfl
 simp[Instr.typeAssert,go_sem,hu,zeroValue191,h]
theorem YF(x:TypeId)(w:World):(Instr.typeAssert .nilIface x 193 true).run prog w= .ok (.tuple #[.agg #[.pointer none],.bool false]) w:=by
 have hu:∀w,(underlying 193).run prog w= .ok _ w:=fun w=>by simp[underlying,go_sem,underlying193];rfl
 simp[Instr.typeAssert,go_sem,hu,zeroValue193]
theorem UN(x:TypeId)(v:Value)(w:World):(Instr.typeAssert (.iface 193 v) x 193 true).run prog w= .ok (.tuple #[v,.bool true]) w:=by
 have hu:∀w,(underlying 193).run prog w= .ok _ w:=fun w=>by simp[underlying,go_sem,underlying193];rfl
 simp[Instr.typeAssert,go_sem,hu]
theorem XY(x:TypeId)(t:TypeId)(v:Value)(w:World)(h:t≠193):(Instr.typeAssert (.iface t v) x 193 true).run prog w= .ok (.tuple #[.agg #[.pointer none],.bool false]) w:=by
 have hu:∀w,(underlying 193).run prog w= .ok _ w:=fun w=>by simp[underlying,go_sem,underlying193];rfl
 simp[Instr.typeAssert,go_sem,hu,zeroValue193,h]
theorem YA(x:TypeId)(v:Value)(w:World):(Instr.typeAssert (.iface 195 v) x 195 true).run prog w= .ok (.tuple #[v,.bool true]) w:=by
 have hu:∀w,(underlying 195).run prog w= .ok _ w:=fun w=>by simp[underlying,go_sem,underlying195];rfl
 simp[Instr.typeAssert,go_sem,hu]
theorem Ag.sevenF{W:World}{P t:Nat}{x0 x1 x2 x3 x4 x5 x6:Value}(h:Ag W P (.cells #[x0,x1,x2,x3,x4,x5,x6] t)):W.cell? ⟨P,0,none⟩=some x0/\W.cell? ⟨P,1,none⟩=some x1/\W.cell? ⟨P,2,none⟩=some x2/\W.cell? ⟨P,3,none⟩=some x3/\W.cell? ⟨P,4,none⟩=some x4/\W.cell? ⟨P,5,none⟩=some x5/\W.cell? ⟨P,6,none⟩=some x6:=by
 unfold Ag at h;simp[World.cell?,h]
def Mh(id made b1:Int)(n1:Nat)(f1 g1:Nat->Int)(b2:Int)(n2:Nat)(f2 g2:Nat->Int)(n3:Nat)(h:Nat->Int)(bl:Int)(nl:Nat)(fl gl:Nat->Int):Bool:=
 DO id made b1 n1 f1 g1 b2 n2 f2 g2 n3 h&&(Bb bl nl fl gl&&Cx bl nl fl gl n3 h b1 n1 f1 g1)
def Nh(id made b1:Int)(n1:Nat)(f1 g1:Nat->Int)(b2:Int)(n2:Nat)(f2 g2:Nat->Int)(n3:Nat)(h:Nat->Int)(bl:Int)(nl:Nat)(fl gl:Nat->Int):Bool:=
 DO id made b1 n1 f1 g1 b2 n2 f2 g2 n3 h&&(Bb bl nl fl gl&&Cx b1 n1 f1 g1 n3 h bl nl fl gl)
def KG(id made b1:Int)(n1:Nat)(f1 g1:Nat->Int)(b2:Int)(n2:Nat)(f2 g2:Nat->Int)(n3:Nat)(h:Nat->Int)(bl:Int)(nl:Nat)(fl gl:Nat->Int):Bool:=
 Mh id made b1 n1 f1 g1 b2 n2 f2 g2 n3 h bl nl fl gl&&Nh id made b1 n1 f1 g1 b2 n2 f2 g2 n3 h bl nl fl gl
theorem Nr{id made b1:Int}{n1:Nat}{f1 g1:Nat->Int}{b2:Int}{n2:Nat}{f2 g2:Nat->Int}{n3:Nat}{h:Nat->Int}(t:DO id made b1 n1 f1 g1 b2 n2 f2 g2 n3 h=true):Bb b1 n1 f1 g1=true/\Bb b2 n2 f2 g2=true/\Ci n3 h=true:=by
 simp only[DO,Bool.and_eq_true]at t;exact⟨t.1.1.1.2,t.1.1.2,t.1.2⟩
theorem KH(id made b1:Int)(a1:Option Addr)(n1 k1:Nat)(f1 g1:Nat->Int)(b2:Int)(a2:Option Addr)(n2 k2:Nat)(f2 g2:Nat->Int)(a3:Option Addr)(n3 k3:Nat)(h:Nat->Int)(bl:Int)(al:Option Addr)(nl kl:Nat)(fl gl:Nat->Int)(w:World)(hn1:n1<=maxLen)(hn2:n2<=maxLen)(hn3:n3<=maxLen)(hc1:AX w a1 n1 f1 g1)(hc2:AX w a2 n2 f2 g2)(hc3:Be w a3 n3 h)(hnl:nl<=maxLen)(hcl:AX w al nl fl gl):
 Calls prog 29 #[.agg #[.int .i64 id,.int .i64 b1,.slice a1 n1 k1,.int .i64 b2,.slice a2 n2 k2,.slice a3 n3 k3,.int .i64 made],.agg #[.int .i64 bl,.slice al nl kl]] w fun e w'=>e= .returned (.bool (Mh id made b1 n1 f1 g1 b2 n2 f2 g2 n3 h bl nl fl gl))/\Below w w w':=by
 have n4:No (.cells #[.int .i64 id,.int .i64 b1,.slice a1 n1 k1,.int .i64 b2,.slice a2 n2 k2,.slice a3 n3 k3,.int .i64 made] 39):=⟨⟩;have n5:No (.cells #[.int .i64 bl,.slice al nl kl] 30):=⟨⟩;have hb0:=((Below.refl _ w).alloc nr n4).alloc (by simp) n5;have yT:Ag ((w.alloc n4).alloc n5) w n4:=(Ag.new w _).alloc _;have yL:Ag ((w.alloc n4).alloc n5) (w.heap.size+1) n5:=by have:=Ag.new (w.alloc n4) n5;simpa using this
 go_enter func29,ntmps29
 go_wp2_with fail
 refine(Ja _ _ _ _ _ _ f1 g1 _ _ _ _ f2 g2 _ _ _ h _ hn1 hn2 hn3 (hc1.below hb0) (hc2.below hb0) (hc3.below hb0)).mono ?_;rintro e w1 ⟨rfl,hb1⟩;have B1:Below w w w1:=hb0.trans (hb1.mono (by simp;omega));have xT:=yT.below hb1;have xL:=yL.below hb1;obtain⟨x0,x1,x2,x3,x4,x5,x6⟩:=xT.sevenF;obtain⟨x7,x8⟩:=xL.two;clear yT yL hb0 hb1;by_cases t1:DO id made b1 n1 f1 g1 b2 n2 f2 g2 n3 h=true
 ·go_wp2_with fail
  refine(HI _ _ _ _ fl gl _ _ _ h _ _ _ _ f1 g1 _ hnl hn1 hn3 (hcl.below B1) (hc1.below B1) (hc3.below B1)).mono ?_;rintro e w2 ⟨rfl,hb2⟩;have B2:Below w w w2:=B1.trans (hb2.mono B1.size);clear x0 x1 x2 x3 x4 x5 x6 x7 x8 xT xL;go_wp2;go_ret;obtain⟨p1,_,p3⟩:=Nr t1;exact⟨Ah (by simp[De,Mh,t1,p1,p3]),B2⟩
 ·have t1':DO id made b1 n1 f1 g1 b2 n2 f2 g2 n3 h=false:=by simpa using t1
  clear t1;go_wp2;go_ret;exact⟨Ah (by simp[Mh,t1']),B1⟩
theorem MD(id made b1:Int)(a1:Option Addr)(n1 k1:Nat)(f1 g1:Nat->Int)(b2:Int)(a2:Option Addr)(n2 k2:Nat)(f2 g2:Nat->Int)(a3:Option Addr)(n3 k3:Nat)(h:Nat->Int)(bl:Int)(al:Option Addr)(nl kl:Nat)(fl gl:Nat->Int)(w:World)(hn1:n1<=maxLen)(hn2:n2<=maxLen)(hn3:n3<=maxLen)(hc1:AX w a1 n1 f1 g1)(hc2:AX w a2 n2 f2 g2)(hc3:Be w a3 n3 h)(hnl:nl<=maxLen)(hcl:AX w al nl fl gl):
 Calls prog 30 #[.agg #[.int .i64 id,.int .i64 b1,.slice a1 n1 k1,.int .i64 b2,.slice a2 n2 k2,.slice a3 n3 k3,.int .i64 made],.agg #[.int .i64 bl,.slice al nl kl]] w fun e w'=>e= .returned (.bool (Nh id made b1 n1 f1 g1 b2 n2 f2 g2 n3 h bl nl fl gl))/\Below w w w':=by
 have n4:No (.cells #[.int .i64 id,.int .i64 b1,.slice a1 n1 k1,.int .i64 b2,.slice a2 n2 k2,.slice a3 n3 k3,.int .i64 made] 39):=⟨⟩;have n5:No (.cells #[.int .i64 bl,.slice al nl kl] 30):=⟨⟩;have hb0:=((Below.refl _ w).alloc nr n4).alloc (by simp) n5;have yT:Ag ((w.alloc n4).alloc n5) w n4:=(Ag.new w _).alloc _;have yL:Ag ((w.alloc n4).alloc n5) (w.heap.size+1) n5:=by have:=Ag.new (w.alloc n4) n5;simpa using this
 go_enter func30,ntmps30
 go_wp2_with fail
 refine(Ja _ _ _ _ _ _ f1 g1 _ _ _ _ f2 g2 _ _ _ h _ hn1 hn2 hn3 (hc1.below hb0) (hc2.below hb0) (hc3.below hb0)).mono ?_;rintro e w1 ⟨rfl,hb1⟩;have B1:Below w w w1:=hb0.trans (hb1.mono (by simp;omega));have xT:=yT.below hb1;have xL:=yL.below hb1;obtain⟨x0,x1,x2,x3,x4,x5,x6⟩:=xT.sevenF;obtain⟨x7,x8⟩:=xL.two;clear yT yL hb0 hb1;by_cases t1:DO id made b1 n1 f1 g1 b2 n2 f2 g2 n3 h=true
 ·go_wp2_with fail
  refine(HI _ _ _ _ f1 g1 _ _ _ h _ _ _ _ fl gl _ hn1 hnl hn3 (hc1.below B1) (hcl.below B1) (hc3.below B1)).mono ?_;rintro e w2 ⟨rfl,hb2⟩;have B2:Below w w w2:=B1.trans (hb2.mono B1.size);clear x0 x1 x2 x3 x4 x5 x6 x7 x8 xT xL;go_wp2;go_ret;obtain⟨p1,_,p3⟩:=Nr t1;exact⟨Ah (by simp[De,Nh,t1,p1,p3]),B2⟩
 ·have t1':DO id made b1 n1 f1 g1 b2 n2 f2 g2 n3 h=false:=by simpa using t1
  clear t1;go_wp2;go_ret;exact⟨Ah (by simp[Nh,t1']),B1⟩
theorem MF(id made b1:Int)(a1:Option Addr)(n1 k1:Nat)(f1 g1:Nat->Int)(b2:Int)(a2:Option Addr)(n2 k2:Nat)(f2 g2:Nat->Int)(a3:Option Addr)(n3 k3:Nat)(h:Nat->Int)(bl:Int)(al:Option Addr)(nl kl:Nat)(fl gl:Nat->Int)(w:World)(hn1:n1<=maxLen)(hn2:n2<=maxLen)(hn3:n3<=maxLen)(hc1:AX w a1 n1 f1 g1)(hc2:AX w a2 n2 f2 g2)(hc3:Be w a3 n3 h)(hnl:nl<=maxLen)(hcl:AX w al nl fl gl):
 Calls prog 13 #[.agg #[.int .i64 id,.int .i64 b1,.slice a1 n1 k1,.int .i64 b2,.slice a2 n2 k2,.slice a3 n3 k3,.int .i64 made],.agg #[.int .i64 bl,.slice al nl kl]] w fun e w'=>e= .returned (.bool (KG id made b1 n1 f1 g1 b2 n2 f2 g2 n3 h bl nl fl gl))/\Below w w w':=by
 have n4:No (.cells #[.int .i64 id,.int .i64 b1,.slice a1 n1 k1,.int .i64 b2,.slice a2 n2 k2,.slice a3 n3 k3,.int .i64 made] 39):=⟨⟩;have n5:No (.cells #[.int .i64 bl,.slice al nl kl] 30):=⟨⟩;have hb0:=((Below.refl _ w).alloc nr n4).alloc (by simp) n5;have yT:Ag ((w.alloc n4).alloc n5) w n4:=(Ag.new w _).alloc _;have yL:Ag ((w.alloc n4).alloc n5) (w.heap.size+1) n5:=by have:=Ag.new (w.alloc n4) n5;simpa using this
 go_enter func13,ntmps13
 go_wp2_with fail
 refine(KH _ _ _ _ _ _ f1 g1 _ _ _ _ f2 g2 _ _ _ h _ _ _ _ fl gl _ hn1 hn2 hn3 (hc1.below hb0) (hc2.below hb0) (hc3.below hb0) hnl (hcl.below hb0)).mono ?_;rintro e w1 ⟨rfl,hb1⟩;have B1:Below w w w1:=hb0.trans (hb1.mono (by simp;omega));have xT:=yT.below hb1;have xL:=yL.below hb1;obtain⟨x0,x1,x2,x3,x4,x5,x6⟩:=xT.sevenF;obtain⟨x7,x8⟩:=xL.two;clear yT yL hb0 hb1;by_cases t1:Mh id made b1 n1 f1 g1 b2 n2 f2 g2 n3 h bl nl fl gl=true
 ·go_wp2_with fail
  refine(MD _ _ _ _ _ _ f1 g1 _ _ _ _ f2 g2 _ _ _ h _ _ _ _ fl gl _ hn1 hn2 hn3 (hc1.below B1) (hc2.below B1) (hc3.below B1) hnl (hcl.below B1)).mono ?_;rintro e w2 ⟨rfl,hb2⟩;have B2:Below w w w2:=B1.trans (hb2.mono B1.size);clear x0 x1 x2 x3 x4 x5 x6 x7 x8 xT xL;go_wp2;go_ret;exact⟨Ah (by simp[KG,t1]),B2⟩
 ·have t1':Mh id made b1 n1 f1 g1 b2 n2 f2 g2 n3 h bl nl fl gl=false:=by simpa using t1
  clear t1;go_wp2;go_ret;exact⟨Ah (by simp[KG,t1']),B1⟩
theorem Cl(w:World){B:Nat}(E:Nat->Addr)(hB:B<=w.heap.size)(c:Int)(hc:c≠0)(i:Nat)(h0:i≠0)(h1:i<14)(h3:i≠3){r:Nat}(hr:w.heap.size=r):Told (w.alloc (.cells #[.int .i64 c,.iface 259 (.pointer (some (E i)))] 66)) B E (.iface 61 (.pointer r)) c:=by
 subst hr;exact .inr ⟨hc,_,i,rfl,Ag.new w _,h0,h1,h3,hB⟩
theorem Tw{k:Int}(h:k≠1):Ew k=191∨Ew k=193∨Ew k=195:=by
 unfold Ew;rw[if_neg h];split
 ·exact .inl rfl
 ·split
  ·exact .inr (.inl rfl)
  ·exact .inr (.inr rfl)
theorem Uk(E:Nat->Addr)(w:World)(B P:Nat)(s:Al)(g ca q co:Nat)(lt:List Ae)(lo:List Ab)(t c C:Nat)(nb:Nat->Nat)(kv:Nat->Value)(K:Nat->List Int)(h:Ex w B P s g ca q co lt lo t (.map (some c)))(hN:Eb w C c lo.length (fun i=>(Aa lo i).id) q 0 nb kv K)(he:Kr w E)(h14:14<=B)(hB:B<=w.heap.size)(ht:t<lt.length)(X:Ae)(hX:X=lt[t])(u:Nat)(hu:u<lo.length)(O:Ab)(hO:O=lo[u])(hd:∀x∈lo,x.data.size<=maxLen)(hto:(Lit.int .i64 s.to).wf=true)
 (CH:∀p,p<lo.length->∀W,Below w w W->Calls prog 13 #[.agg X,.agg #[.int .i64 (Aa lo p).b1,.slice (Aa lo p).c1.a (Aa lo p).c1.n (Aa lo p).c1.k]] W fun e w'=>e= .returned (.bool (Ap X (Aa lo p).b1 (Aa lo p).c1))/\Below W W w'):
 Calls prog 152 #[.pointer P,.agg #[.pointer (some ⟨q,u*10,none⟩)]] w fun e w'=>∃v,e= .returned v/\∃(c':Int) (lo':List Ab),Ex w' B P s g ca q co lt lo' t (.map (some c))/\Below B w w'/\Told w' B E v c'/\((Gl lo s.to=none/\c'=4/\lo'=lo)∨∃p,Gl lo s.to=some p/\((((Aa lo p).kind≠1∨Ap X (Aa lo p).b1 (Aa lo p).c1=false)/\c'=4/\lo'=lo)∨((Aa lo p).kind=1/\Ap X (Aa lo p).b1 (Aa lo p).c1=true/\c'=0/\lo'=(lo.set p ⟨(Aa lo p).id,(Aa lo p).kind,(Aa lo p).up,(Aa lo p).b1,(Aa lo p).c1,O.data,(Aa lo p).jA,(Aa lo p).own,(Aa lo p).b2,(Aa lo p).c2⟩)))):=by
 obtain⟨CW,gl⟩:=h.st.jJ ht;rw[<-hX]at CW;obtain⟨CO,ql⟩:=h.st.jF hu hd;rw[<-hO]at CO;have n2:Nw (w.alloc (.cells #[.pointer (some ⟨q,u*10,none⟩)] 189)):=⟨⟩;have b0:Below w w n2:=Bf w _;have c0:(n2:World).cell? ⟨w,0,none⟩=some (.pointer (some ⟨q,u*10,none⟩)):=by go_simp
 obtain⟨⟨k0,k1,k2,k3,k4,k5,k6,k7,k8,k9⟩,k10,k11,k12,k13⟩:=(h.wk.below b0).jZ;have HW:=hid h;have HE:=hid he;have HCH:=hid CH;have B0:=hid b0;have TH:=hid (Ju n2 B P s g ca q co lt lo t c C lo.length _ nb kv K (h.below b0) (hN.below b0) nr hd s.to hto);have n6:No (.cells (Ie s g lt.length ca q lo.length co t (.map (some c))) 100):=⟨⟩;have BX:Hid (∀W,Below (n2:World).heap.size n2 W->Ag W P n6/\Fi W g (t*7) X/\C9 W q (u*10) O/\W.cell? ⟨w,0,none⟩=some (.pointer (some ⟨q,u*10,none⟩))):=hid (fun W hW=>⟨(HW.out.wk.below B0).below hW,(CW.below gl B0).below (Nat.lt_of_lt_of_le gl B0.out.size) hW,(CO.below ql B0).below (Nat.lt_of_lt_of_le ql B0.out.size) hW,(hW.cell (p:=⟨w,0,none⟩) (by simp)).trans c0⟩);have HD:=hid hd;have wl:w.heap.size<(n2:World).heap.size:=by simp
 clear h he CH b0 hN hX hO CW CO hd;go_enter func152,ntmps152
 go_wp2_with fail
 refine TH.out.mono ?_;rintro e w1 ⟨hr,b1⟩;have V1:=hid b1;have A1:=hid (Af B0 b1);have H1:=hid (HW.out.below A1);clear TH b1 k0 k1 k2 k3 k4 k5 k6 k7 k8 k9 k10 k11 k12 k13 c0;rcases hr with⟨hf,rfl⟩|⟨p,hf,rfl⟩
 ·have HF:Hid (Gl lo s.to=none):=hid hf;clear hf;have a0:=YB 184 w1;have n9:Nw (w1.alloc (.cells #[.pointer none] 189)):=⟨⟩;have b2:Below w1 w1 n9:=Bf w1 _;have A2:=hid (Af A1 b2);have e6:=(HE.out.below h14 (A2.out.mono hB) 6 (by omega) (by omega)).1;have sz:B<=(n9:World).heap.size:=Nat.le_trans hB A2.out.size;go_wp2_with fail
  refine(Bv 259 (.pointer (some (E 6))) _).mono ?_;rintro e w9 ⟨rfl,rfl⟩;go_wp2;go_ret;have b3:=Af A2 (Bf _ (.cells #[.int .i64 4,.iface 259 (.pointer (some (E 6)))] 66));exact⟨_,rfl,4,lo,HW.out.below b3,b3.mono hB,Cl _ E sz 4 (by decide) 6 (by decide) (by decide) (by decide) (by first|rfl|simp),.inl ⟨HF,rfl,rfl⟩⟩
 ·have HF:Hid (Gl lo s.to=some p):=hid hf;obtain⟨hp,_⟩:=Av hf;have eo:lo[p]'hp=Aa lo p:=by simp[Aa,hp]
  have HP:=hid eo;clear hf eo;by_cases h1:(Aa lo p).kind=1
  ·have ty:Ew (Aa lo p).kind=189:=(by rw[h1];rfl);rw[ty];have H1':=hid h1;clear ty h1;have n4:Na #[.pointer (some ⟨q,p*10,none⟩)]:=⟨⟩;have a0:=Qz 184 (.agg n4) w1;have n1:Nw (w1.alloc (.cells n4 189)):=⟨⟩;have b2:Below w1 w1 n1:=Bf w1 _;have V2:=hid (Af V1 b2);have A2:=hid (Af A1 b2);have H2:=hid (HW.out.below A2);have d0:(n1:World).cell? ⟨w1,0,none⟩=some (.pointer (some ⟨q,p*10,none⟩)):=(by go_simp);clear b2;go_upto_region 4 with fail
   have D0:=hid (Below.refl (n1:World).heap.size n1).drew;have BY:Hid (∀W,Below (n1:World).heap.size n1 W->Ag W P n6/\Fi W g (t*7) X/\C9 W q (p*10) (Aa lo p)/\W.cell? ⟨w1,0,none⟩=some (.pointer (some ⟨q,p*10,none⟩))):=hid (fun W hW=>⟨(BX W (Af V2 hW)).1,(BX W (Af V2 hW)).2.1,by
    have:=((H2.out.below hW).st.jF hp HD).1;rw[HP.out]at this;exact this,(hW.cell (p:=⟨w1,0,none⟩) (by simp)).trans d0⟩)
   have ql2:∀W,Below (n1:World).heap.size n1 W->q<W.heap.size:=fun W hW=>((H2.out.below hW).st.jF hp HD).2;have EL:Hid (∀args w,(callFunc 147 args).run prog w= .ok (.enter 147 args) w):=hid (enters_of func147 (by kernel_rfl) rfl);have EC:Hid (∀args w,(callFunc 13 args).run prog w= .ok (.enter 13 args) w):=hid (enters_of func13 (by kernel_rfl) rfl);have n5:Na #[.int .i64 (Aa lo p).b1,.slice (Aa lo p).c1.a (Aa lo p).c1.n (Aa lo p).c1.k]:=⟨⟩;have P1:Hid (Calls prog 147 #[.agg n4] (n1:World).drew fun e w'=>∃v,e= .returned v/\(v= .agg n5/\Below (n1:World).drew.heap.size (n1:World).drew w')):=hid ((Lc q (p*10) (Aa lo p).b1 (Aa lo p).c1 (n1:World).drew (ql2 _ D0) (BY _ D0).2.2.1.c3 (BY _ D0).2.2.1.c4).mono fun _ _ h=>⟨_,h.1,rfl,h.2⟩);refine Am 11 (fun W=>Below (n1:World).heap.size n1 W) (by kernel_rfl) ?_;have n8:Nv (.pointer P):=⟨⟩;refine tr 0 22 n8 D0 ?_;refine tr 1 23 n8 D0 ?_;refine tr 2 24 (.pointer (some ⟨P,12,none⟩)) D0 ?_;have n7:Nv (.pointer (some ⟨g,t*7,none⟩)):=⟨⟩;refine tr 3 25 n7 D0 ?_ (hy:=fun W h=>by obtain⟨⟨k0,k1,k2,k3,k4,k5,k6,k7,k8,k9⟩,k10,k11,k12,k13⟩:=(BY W h).1.jZ;go_simp);refine tr 4 26 n7 D0 ?_;have n3:Na X:=⟨⟩;refine tr 5 27 (.agg n3) D0 ?_ (hy:=fun W h=>by have C:=(BY W h).2.1;have y0:=C.c0;have y1:=C.c1;have y2:W.cell? ⟨g,t*7+2,none⟩=some (.slice X.c1.a X.c1.n X.c1.k):=C.c2;have y3:=C.c3;have y4:W.cell? ⟨g,t*7+4,none⟩=some (.slice X.c2.a X.c2.n X.c2.k):=C.c4;have y5:W.cell? ⟨g,t*7+5,none⟩=some (.slice X.own.a X.own.n X.own.k):=C.c5;have y6:=C.c6;go_simp);refine tr 6 28 (.pointer (w1)) D0 ?_;refine tr 7 29 (.agg n4) D0 ?_ (hy:=fun W h=>by have y:=(BY W h).2.2.2;go_simp);refine Ac (i:=8) (by kernel_rfl) rfl ?_;intro K hK;refine AE (by rfl) 147 _ _ (by rfl) EL _ (by rfl) (some 30) (by rfl) _ P1 ?_;rintro v w3 ⟨rfl,b3⟩;have V3:=hid (Af D0 b3);refine hK _ _ (fun _=>V3) ?_;clear hK K b3 P1;simp only[ap,List.set];have P2:Hid (Calls prog 13 #[.agg n3,.agg n5] w3 fun e w'=>∃v,e= .returned v/\(v= .bool (Ap X (Aa lo p).b1 (Aa lo p).c1)/\Below w3 w3 w')):=hid ((HCH p hp _ (Af A2 V3)).mono fun _ _ h=>⟨_,h.1,rfl,h.2⟩);refine Ac (i:=9) (by kernel_rfl) rfl ?_;intro K hK;refine AL (by rfl) 13 _ _ _ (by rfl) EC _ _ (by rfl) (by rfl) (some 31) (by rfl) _ P2 ?_;rintro v w4 ⟨rfl,b4⟩;have V4:=hid (Af V3 b4);refine hK _ _ (fun _=>V4) ?_;clear hK K b4 P2;simp only[ap,List.set];refine tr 10 32 (.bool (!Ap X (Aa lo p).b1 (Aa lo p).c1)) V4 ?_;refine Aj (by kernel_rfl) ?_ _;have A4:=hid (Af A2 V4);have sz:B<=w4.heap.size:=Nat.le_trans hB A4.out.size;cases hc:Ap X (Aa lo p).b1 (Aa lo p).c1 with
   |false=>
    have e8:=(HE.out.below h14 (A4.out.mono hB) 8 (by omega) (by omega)).1;go_wp2_with fail
    refine(Bv 259 (.pointer (some (E 8))) _).mono ?_;rintro e w9 ⟨rfl,rfl⟩;go_wp2;go_ret;have b3:=Af A4 (Bf _ (.cells #[.int .i64 4,.iface 259 (.pointer (some (E 8)))] 66));exact⟨_,rfl,4,lo,HW.out.below b3,b3.mono hB,Cl _ E sz 4 (by decide) 8 (by decide) (by decide) (by decide) (by first|rfl|simp),.inr ⟨p,HF,.inl ⟨.inr hc,rfl,rfl⟩⟩⟩
   |true=>
    have HC:=hid hc;clear hc;have W4:=hid (HW.out.below A4);have WD:=hid (W4.out.below (Below.refl _ w4).drew);obtain⟨S1,hg,cur,hcu⟩:=WD.out.setData (d:=O.data) hp HP.out.symm;have S1':=hid S1;have gf:=hcu.jC;have B5:=hid (((A4.out.drew).mono hB).setCell (p:=⟨q,p*10+5,none⟩) hg (.string O.data));have y0:w4.drew.cell? ⟨w1,0,none⟩=some (.pointer (some ⟨q,p*10,none⟩)):=(BY _ V4).2.2.2;have y1:w4.drew.cell? ⟨w,0,none⟩=some (.pointer (some ⟨q,u*10,none⟩)):=(BX _ (Af V2 V4)).2.2.2;have y2:w4.drew.cell? ⟨q,u*10+5,none⟩=some (.string O.data):=(BX _ (Af V2 V4)).2.2.1.c5;have y3:w4.drew.cell? ⟨q,p*10+5,none⟩=some (.string (Aa lo p).data):=(BY _ V4).2.2.1.c5;clear S1 d0;go_upto_region 6 with fail
    go_region_law fail
    all_goals(
     go_wp2;go_ret;exact⟨_,rfl,0,_,S1',B5,.inl ⟨rfl,rfl⟩,.inr ⟨p,HF,.inr ⟨H1',HC,rfl,rfl⟩⟩⟩)
  ·have h2:∃ty,Ew (Aa lo p).kind=ty/\(ty=191∨ty=193∨ty=195):=⟨_,rfl,Tw h1⟩;obtain⟨ty,e1,e2⟩:=h2;rw[e1];have HK:=hid h1;have n10:Nw (w1.alloc (.cells #[.pointer none] 189)):=⟨⟩;have b2:Below w1 w1 n10:=Bf w1 _;have A2:=hid (Af A1 b2);have e6:=(HE.out.below h14 (A2.out.mono hB) 6 (by omega) (by omega)).1;have sz:B<=(n10:World).heap.size:=Nat.le_trans hB A2.out.size;have a0:=QH 184 ty (.agg #[.pointer (some ⟨q,p*10,none⟩)]) w1 (by rcases e2 with rfl|rfl|rfl<;>decide);clear e1 h1 b2 e2
   (
    go_wp2_with fail
    refine(Bv 259 (.pointer (some (E 6))) _).mono ?_;rintro e w9 ⟨rfl,rfl⟩;go_wp2;go_ret;have b3:=Af A2 (Bf _ (.cells #[.int .i64 4,.iface 259 (.pointer (some (E 6)))] 66));exact⟨_,rfl,4,lo,HW.out.below b3,b3.mono hB,Cl _ E sz 4 (by decide) 6 (by decide) (by decide) (by decide) (by first|rfl|simp),.inr ⟨p,HF,.inl ⟨.inl HK,rfl,rfl⟩⟩⟩)
end Go.Proofs.YteoihknaljgocaaGreatDoor
