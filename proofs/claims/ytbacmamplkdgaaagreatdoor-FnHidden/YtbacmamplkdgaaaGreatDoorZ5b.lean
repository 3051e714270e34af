import Derived.Test.YtbacmamplkdgaaaGreatDoorZ4b
import Derived.Test.YtbacmamplkdgaaaGreatDoorZ3b
import Derived.Deep.RegionLaw
import Derived.Shelf.Abstract
import Derived.Test.YtbacmamplkdgaaaGreatDoorZ0b
set_option maxRecDepth 100000
set_option maxHeartbeats 8000000
namespace Go.Proofs.YtbacmamplkdgaaaGreatDoor
open Go Go.RowKit Go.Deep Go.Maps
section
variable {t e size bytes:Nat}{z:Value} (hT:Tryz.prog.underlying t=some (.slice e)) (hI:(Tryz.prog.info? e).map (fun i=>(i.zero,i.size,i.bytes))=some (some z,size,bytes)) (hzs:z.cells.size=size) (hsz:0<size)
include hT hI hzs hsz
theorem wpList_append_any{ops:Array Oper}{rest:List Oper}{o:Oper}{a:Act}{Q:Exit→Act→World→Prop}(w:World)(hgd:o.guard=none)(s x:Operand)
 (ho:o.op= .call {callee:= .builtin .append,args:=#[s,x],argTypes:=#[t,t]})
 (B:Nat)(v:Value)(n:Nat)(cs:List Value)(hs:a.eval s=v)(hown:w.ownsRow B e size v n cs)(ad:Option Addr)(m c:Nat)(cs':List Value)(hx:a.eval x= .slice ad m c)(hl:cs'.length=m*size)(hc:LiesC w ad m cs')(h1:∀u∈cs',u.oneCell'=true)
 (hm:n+m≤4194304)(hby:(n+m)*bytes≤140737488355328)(hB:B≤w.heap.size)
 (h:∀a' c' w',w'.ownsRow B e size (.slice a' (n+m) c') (n+m) (cs++cs')→w.grownBy w' v.ownBlock→wpList Tryz.prog ops Q rest (a.put o.dst (.slice a' (n+m) c')) w'):wpList Tryz.prog ops Q (o::rest) a w:=
 wpList_plain hgd fun _ hK=>wp_append_gen hT hI hzs hsz w s x ho B v n cs hs hown ad m c cs' hx hl hc h1 hm hby hB fun a' c' w' h2 h3 _=>hK _ _ (h a' c' w' h2 h3)
end
def CatL.new(B:Nat)(w:World)(c:CatL):Prop:=c.at w∧(0<c.n→∃b m F,c.a=some ⟨b,0,none⟩∧B≤b∧c.n*2≤m∧w.rowIs b 88 m F)
def IntL.new(B:Nat)(w:World)(c:IntL):Prop:=c.at w∧(0<c.n→∃b m F,c.a=some ⟨b,0,none⟩∧B≤b∧c.n≤m∧w.rowIs b 2 m F)
def StrL.new(B:Nat)(w:World)(c:StrL):Prop:=c.at w∧(0<c.n→∃b m F,c.a=some ⟨b,0,none⟩∧B≤b∧(c.n≤m∧m=c.k)∧w.rowIs b 9 m F)
theorem CatL.new.below{B:Nat}{w w':World}{c:CatL}(h:c.new B w)(hb:Below w.heap.size w w'):c.new B w':=⟨h.1.below hb,fun hn=>by
 obtain⟨b,m,F,e,h1,h2,h3⟩:=h.2 hn;exact⟨b,m,F,e,h1,h2,rowUp h3 hb⟩⟩
theorem IntL.new.below{B:Nat}{w w':World}{c:IntL}(h:c.new B w)(hb:Below w.heap.size w w'):c.new B w':=⟨h.1.below hb,fun hn=>by
 obtain⟨b,m,F,e,h1,h2,h3⟩:=h.2 hn;exact⟨b,m,F,e,h1,h2,rowUp h3 hb⟩⟩
theorem StrL.new.below{B:Nat}{w w':World}{c:StrL}(h:c.new B w)(hb:Below w.heap.size w w'):c.new B w':=⟨h.1.below hb,fun hn=>by
 obtain⟨b,m,F,e,h1,h2,h3⟩:=h.2 hn;exact⟨b,m,F,e,h1,h2,rowUp h3 hb⟩⟩
theorem CatL.new.low{B B':Nat}{w:World}{c:CatL}(h:c.new B w)(hB:B'≤B):c.new B' w:=⟨h.1,fun hn=>by
 obtain⟨b,m,F,e,h1,h2,h3⟩:=h.2 hn;exact⟨b,m,F,e,by omega,h2,h3⟩⟩
theorem IntL.new.low{B B':Nat}{w:World}{c:IntL}(h:c.new B w)(hB:B'≤B):c.new B' w:=⟨h.1,fun hn=>by
 obtain⟨b,m,F,e,h1,h2,h3⟩:=h.2 hn;exact⟨b,m,F,e,by omega,h2,h3⟩⟩
theorem StrL.new.low{B B':Nat}{w:World}{c:StrL}(h:c.new B w)(hB:B'≤B):c.new B' w:=⟨h.1,fun hn=>by
 obtain⟨b,m,F,e,h1,h2,h3⟩:=h.2 hn;exact⟨b,m,F,e,by omega,h2,h3⟩⟩
theorem row_of_own{w:World}{B e size n c:Nat}{a:Option Addr}{cs:List Value}(h:w.ownsRow B e size (.slice a n c) n cs)(hn:0<n):∃b m F,a=some ⟨b,0,none⟩∧B≤b∧n*size≤m∧w.rowIs b e m F:=by
 rcases h.2 with⟨_,h0⟩|⟨g,cap,cur,hv,h1,h2,h3,h4,h5,h6⟩
 ·omega
 ·simp only[Value.slice.injEq]at hv;obtain⟨rfl,_,rfl⟩:=hv;exact⟨g,cur.size,fun i=>cur[i]?.getD undef,rfl,h1,by rw[h5];exact Nat.mul_le_mul_right _ h3,⟨cur,h2,rfl,fun i hi=>by simp[hi]⟩⟩
theorem row_of_ownS{w:World}{B e n c:Nat}{a:Option Addr}{cs:List Value}(h:w.ownsRow B e 1 (.slice a n c) n cs)(hn:0<n):∃b m F,a=some ⟨b,0,none⟩∧B≤b∧(n≤m∧m=c)∧w.rowIs b e m F:=by
 rcases h.2 with⟨_,h0⟩|⟨g,cap,cur,hv,h1,h2,h3,h4,h5,h6⟩
 ·omega
 ·simp only[Value.slice.injEq]at hv;obtain⟨rfl,_,rfl⟩:=hv;exact⟨g,cur.size,fun i=>cur[i]?.getD undef,rfl,h1,⟨by rw[h5];omega,by rw[h5];omega⟩,⟨cur,h2,rfl,fun i hi=>by simp[hi]⟩⟩
theorem strs_lies{w:World}{a:Option Addr}{n:Nat}{f:Nat→ByteArray}(h:StrAt w a n f):LiesC w a n ((List.range n).map (fun i=>Value.string (f i))):=fun hn=>by
 obtain⟨b,off,e,hlt,hc⟩:=h hn;refine⟨b,off,e,hlt,fun j u hu=>?_⟩;by_cases hj:j<n
 ·simp[hj]at hu;rw[←hu];exact hc j hj
 ·simp[hj]at hu
theorem CatL.new.of{B:Nat}{w w':World}{c:CatL}(h:c.new B w)(hs:w.heap.size≤w'.heap.size)(hb:∀b,c.a=some ⟨b,0,none⟩→0<c.n→w'.heap[b]? =w.heap[b]?):c.new B w':=
 ⟨⟨h.1.1,fun hn=>by
   obtain⟨b,off,e,hlt,hc⟩:=h.1.2 hn;obtain⟨b',_,_,e',_⟩:=h.2 hn;have eb:=e.symm.trans e';cases eb;have ce:∀o,w'.cell? ⟨b,o,none⟩=w.cell? ⟨b,o,none⟩:=fun o=>World.cell?_of_block (a:=⟨b,o,none⟩) (hb b e' hn);exact⟨b,0,e,Nat.lt_of_lt_of_le hlt hs,fun i hi=>by rw[ce,ce];exact hc i hi⟩⟩,fun hn=>by
   obtain⟨b,m,F,e,h1,h2,h3⟩:=h.2 hn;exact⟨b,m,F,e,h1,h2,h3.of_block (hb b e hn)⟩⟩
theorem CatL.new.ne{B:Nat}{w:World}{c:CatL}(h:c.new B w){P t:Nat}{cs:Array Value}(hP:Blk w P (.cells cs t))(ht:t≠88):∀b,c.a=some ⟨b,0,none⟩→0<c.n→b≠P:=fun b e hn=>by
 obtain⟨b',m,F,e',_,_,h3⟩:=h.2 hn;rw[e]at e';cases e';exact row_ne h3 hP.row (fun e=>ht e.symm)
theorem IntL.new.of{B:Nat}{w w':World}{c:IntL}(h:c.new B w)(hs:w.heap.size≤w'.heap.size)(hb:∀b,c.a=some ⟨b,0,none⟩→0<c.n→w'.heap[b]? =w.heap[b]?):c.new B w':=
 ⟨⟨h.1.1,fun hn=>by
   obtain⟨b,off,e,hlt,hc⟩:=h.1.2 hn;obtain⟨b',_,_,e',_⟩:=h.2 hn;have eb:=e.symm.trans e';cases eb;have ce:∀o,w'.cell? ⟨b,o,none⟩=w.cell? ⟨b,o,none⟩:=fun o=>World.cell?_of_block (a:=⟨b,o,none⟩) (hb b e' hn);exact⟨b,0,e,Nat.lt_of_lt_of_le hlt hs,fun i hi=>by rw[ce];exact hc i hi⟩⟩,fun hn=>by
   obtain⟨b,m,F,e,h1,h2,h3⟩:=h.2 hn;exact⟨b,m,F,e,h1,h2,h3.of_block (hb b e hn)⟩⟩
theorem IntL.new.ne{B:Nat}{w:World}{c:IntL}(h:c.new B w){P t:Nat}{cs:Array Value}(hP:Blk w P (.cells cs t))(ht:t≠2):∀b,c.a=some ⟨b,0,none⟩→0<c.n→b≠P:=fun b e hn=>by
 obtain⟨b',m,F,e',_,_,h3⟩:=h.2 hn;rw[e]at e';cases e';exact row_ne h3 hP.row (fun e=>ht e.symm)
theorem StrL.new.of{B:Nat}{w w':World}{c:StrL}(h:c.new B w)(hs:w.heap.size≤w'.heap.size)(hb:∀b,c.a=some ⟨b,0,none⟩→0<c.n→w'.heap[b]? =w.heap[b]?):c.new B w':=
 ⟨⟨h.1.1,fun hn=>by
   obtain⟨b,off,e,hlt,hc⟩:=h.1.2.1 hn;obtain⟨b',_,_,e',_⟩:=h.2 hn;have eb:=e.symm.trans e';cases eb;have ce:∀o,w'.cell? ⟨b,o,none⟩=w.cell? ⟨b,o,none⟩:=fun o=>World.cell?_of_block (a:=⟨b,o,none⟩) (hb b e' hn);exact⟨b,0,e,Nat.lt_of_lt_of_le hlt hs,fun i hi=>by rw[ce];exact hc i hi⟩,h.1.2.2⟩,fun hn=>by
   obtain⟨b,m,F,e,h1,h2,h3⟩:=h.2 hn;exact⟨b,m,F,e,h1,h2,h3.of_block (hb b e hn)⟩⟩
theorem StrL.new.ne{B:Nat}{w:World}{c:StrL}(h:c.new B w){P t:Nat}{cs:Array Value}(hP:Blk w P (.cells cs t))(ht:t≠9):∀b,c.a=some ⟨b,0,none⟩→0<c.n→b≠P:=fun b e hn=>by
 obtain⟨b',m,F,e',_,_,h3⟩:=h.2 hn;rw[e]at e';cases e';exact row_ne h3 hP.row (fun e=>ht e.symm)
open Go.BigFrame Go.Shelf
theorem step_call{ops:Array Oper}{o:Oper}{a:Act}{w:World}{K:Act→World→Prop}{Q:Exit→Act→World→Prop}{E:Prop}(hgd:o.guard=none)(f:Nat)(x:Operand)(ats:Array TypeId)
 (ho:o.op= .call {callee:= .value (.func f),args:=#[x],argTypes:=ats})(eg:∀args w,(callFunc f args).run Tryz.prog w= .ok (.enter f args) w)(v0:Value)(hv:a.eval x=v0)
 (R:Value→World→Prop)(hc:Calls Tryz.prog f #[v0] w fun e w'=>∃v,e= .returned v∧R v w')(h:∀v w',R v w'→K (a.put o.dst v) w'):
 if Region.wanted o (yielded ops a.tmps)=true then Oper.wp Tryz.prog o a w K Q else E:=by
 have hw:Region.wanted o (yielded ops a.tmps)=true:=by simp[Region.wanted,hgd]
 rw[if_pos hw];have e:(execOp a.eval o).run Tryz.prog w= .ok (.enter f #[v0]) w:=by
  unfold execOp;simp only[ho,resolve,invoke,Sem.run_bind,List.map_toArray,List.map_cons,List.map_nil,hv];simp[go_sem,eg,Act.eval]
 unfold Oper.wp;rw[e,Oper.upon_enter];exact hc.mono fun e w' ⟨v,he,hr⟩=>by subst he;exact h v w' hr
def ThrV.new(B:Nat)(w:World)(t:ThrV):Prop:=t.c1.new B w∧t.c2.new B w∧t.own.new B w
def ThrV.apart(t:ThrV):Prop:=∀b b',t.c1.a=some ⟨b,0,none⟩→0<t.c1.n→t.c2.a=some ⟨b',0,none⟩→0<t.c2.n→b≠b'
theorem Blk.seven{W:World}{P t:Nat}{x0 x1 x2 x3 x4 x5 x6:Value}(h:Blk W P (.cells #[x0,x1,x2,x3,x4,x5,x6] t)):W.cell? ⟨P,0,none⟩=some x0∧W.cell? ⟨P,1,none⟩=some x1∧W.cell? ⟨P,2,none⟩=some x2∧W.cell? ⟨P,3,none⟩=some x3∧W.cell? ⟨P,4,none⟩=some x4∧W.cell? ⟨P,5,none⟩=some x5∧W.cell? ⟨P,6,none⟩=some x6:=by
 unfold Blk at h;simp[World.cell?,h]
theorem Blk.all7{W:World}{P t:Nat}{z0 z1 z2 z3 z4 z5 z6:Value}(h:Blk W P (.cells #[z0,z1,z2,z3,z4,z5,z6] t))(x0 x1 x2 x3 x4 x5 x6:Value):
 Blk (((((((W.setCell ⟨P,0,none⟩ x0).setCell ⟨P,1,none⟩ x1).setCell ⟨P,2,none⟩ x2).setCell ⟨P,3,none⟩ x3).setCell ⟨P,4,none⟩ x4).setCell ⟨P,5,none⟩ x5).setCell ⟨P,6,none⟩ x6) P (.cells #[x0,x1,x2,x3,x4,x5,x6] t):=by
 have h0:Blk (W.setCell ⟨P,0,none⟩ x0) P (.cells #[x0,z1,z2,z3,z4,z5,z6] t):=h.setAt (i:=0) x0;have h1:Blk ((W.setCell ⟨P,0,none⟩ x0).setCell ⟨P,1,none⟩ x1) P (.cells #[x0,x1,z2,z3,z4,z5,z6] t):=h0.setAt (i:=1) x1;have h2:Blk (((W.setCell ⟨P,0,none⟩ x0).setCell ⟨P,1,none⟩ x1).setCell ⟨P,2,none⟩ x2) P (.cells #[x0,x1,x2,z3,z4,z5,z6] t):=h1.setAt (i:=2) x2;have h3:Blk ((((W.setCell ⟨P,0,none⟩ x0).setCell ⟨P,1,none⟩ x1).setCell ⟨P,2,none⟩ x2).setCell ⟨P,3,none⟩ x3) P (.cells #[x0,x1,x2,x3,z4,z5,z6] t):=h2.setAt (i:=3) x3;have h4:Blk (((((W.setCell ⟨P,0,none⟩ x0).setCell ⟨P,1,none⟩ x1).setCell ⟨P,2,none⟩ x2).setCell ⟨P,3,none⟩ x3).setCell ⟨P,4,none⟩ x4) P (.cells #[x0,x1,x2,x3,x4,z5,z6] t):=h3.setAt (i:=4) x4;have h5:Blk ((((((W.setCell ⟨P,0,none⟩ x0).setCell ⟨P,1,none⟩ x1).setCell ⟨P,2,none⟩ x2).setCell ⟨P,3,none⟩ x3).setCell ⟨P,4,none⟩ x4).setCell ⟨P,5,none⟩ x5) P (.cells #[x0,x1,x2,x3,x4,x5,z6] t):=h4.setAt (i:=5) x5;exact h5.setAt (i:=6) x6
def ObjV.new(B:Nat)(w:World)(t:ObjV):Prop:=t.c1.new B w∧t.items.new B w∧t.own.new B w∧t.c2.new B w
def ObjV.apart(t:ObjV):Prop:=∀b b',t.c1.a=some ⟨b,0,none⟩→0<t.c1.n→t.c2.a=some ⟨b',0,none⟩→0<t.c2.n→b≠b'
def zeroBlk:Obj:= .cells #[.int .i64 0,.int .i64 0,.int .i64 0,.int .i64 0,.slice none 0 0,.string (ByteArray.mk #[]),.slice none 0 0,.slice none 0 0,.int .i64 0,.slice none 0 0] 42
def walkFn(N:Nat):Value:= .func (.func 125) #[] #[.pointer (some ⟨N+1,0,none⟩),.pointer (some ⟨N,0,none⟩),.pointer (some ⟨N+1+1,0,none⟩)]
structure Walk(w0:World)(c:Nat)(w:World)(v:Value)(l:List Int):Prop where
 b:Below w0.heap.size w0 w
 q:Blk w w0.heap.size (.cells #[.map (some c)] 59)
 p:Blk w (w0.heap.size+1) (.cells #[v] 34)
 r:Blk w (w0.heap.size+1+1) (.cells #[walkFn w0.heap.size] 165)
 o:OwnI w (w0.heap.size+1+1+1) v l
theorem Blk.grown{w w':World}{P:Nat}{o:Obj}{row:Option Nat}(h:Blk w P o)(hg:w.grownBy w' row)(hne:some P≠row):Blk w' P o:=(hg.block P h.lt hne).trans h
theorem Walk.push{w0 w w':World}{c:Nat}{v v':Value}{l:List Int}{x:Int}(h:Walk w0 c w v l)(ho:OwnI w' (w0.heap.size+1+1+1) v' (l++[x]))(hg:(w.alloc (.cells #[.int .i64 x] 2)).grownBy w' v.ownBlock):
 Walk w0 c (w'.setCell ⟨w0.heap.size+1,0,none⟩ v') v' (l++[x]):=by
 have b1:Below w.heap.size w (w.alloc (.cells #[.int .i64 x] 2)):=(Below.refl _ w).alloc (Nat.le_refl _) _;have hne:∀k,k<w0.heap.size+1+1+1→some k≠v.ownBlock:=fun k hk e=>by have:=(World.ownsRow.lt h.o k e.symm).1;omega
 have p1:=(h.p.below b1).grown hg (hne _ (by omega));have q1:=(h.q.below b1).grown hg (hne _ (by omega));have r1:=(h.r.below b1).grown hg (hne _ (by omega));refine⟨?_,q1.other (by omega) _,?_,r1.other (by omega) _,?_⟩
 ·exact((h.b.trans (b1.mono h.b.size)).trans (below_grown hg (by have:=h.q.lt;simp;omega) (fun j hj=>by have:=(World.ownsRow.lt h.o j hj).1;omega))).setCell (by dsimp only;omega) _
 ·simpa using p1.setAt (i:=0) v'
 ·exact World.ownsRow.kept ho (row:=some (w0.heap.size+1)) ⟨rfl,rfl,rfl,by rw[nblk_setCell];exact Nat.le_refl _,fun j hj hne=>blk_setCell_other _ _ _ _ (by dsimp only;intro e;exact hne (by rw[e]))⟩ (.inr (fun e=>by have:=(World.ownsRow.lt ho _ e).1;omega))
theorem kidsTo_map(ids ups:Nat→Int)(n i:Nat):kidsTo ids ups n i=(kidsI ids ups n i).map ids:=rfl
theorem flat_len(l:List Nat)(f:Nat→List Nat)(j:Nat)(hj:j<l.length):((l.take j).flatMap f).length+(f l[j]).length≤(l.flatMap f).length:=by
 have e:l=l.take j++(l[j]::l.drop (j+1)):=by simp
 have:l.flatMap f=(l.take j).flatMap f++(f l[j]++(l.drop (j+1)).flatMap f):=by
  conv=>lhs;rw[e]
  rw[List.flatMap_append,List.flatMap_cons]
 rw[this,List.length_append,List.length_append];omega
theorem walk_any(w0:World)(B c n:Nat)(ids ups:Nat→Int)(ob off:Nat)(nb:Nat→Nat)(kv:Nat→Value)(hN:Nodes w0 B c n ids ob off nb kv (kidsTo ids ups n))(hr:Rises ids n)(h0:∀j,j<n→ids j≠ups 0)
 (hw:∀i,i<n→(Lit.int .i64 (ids i)).wf=true)(hn:n≤271)(f:Nat):
 ∀(i:Nat) (l:List Int) (v:Value) (w:World),i<n→(∀j m,j<n→parIt ids ups n m j=some i→m<f)→l.length+(preI ids ups n f i).length≤271→Walk w0 c w v l→
  Calls Tryz.prog 125 #[.int .i64 (ids i),.pointer (some ⟨w0.heap.size+1,0,none⟩),.pointer (some ⟨w0.heap.size,0,none⟩),.pointer (some ⟨w0.heap.size+1+1,0,none⟩)] w fun e w'=>
   ∃v',e= .returned (.tuple #[])∧Walk w0 c w' v' (l++(preI ids ups n f i).map ids):=by
 have HN:=hid hN;have HR:=hid hr;have H0:=hid h0;have HW:=hid hw;clear hN hr h0 hw;induction f with
 |zero=>intro i l v w hi hh;exact absurd (hh i 0 hi rfl) (by omega)
 |succ f ih=>
  intro i l v w hi hh hl hk;have IH:=hid ih;have HH:=hid hh;have HK:=hid hk;have hlen:l.length+1≤271:=by simp[preI]at hl;omega
  have HL:=hid hl;clear ih hh hk hl;have x1:_=some v:=HK.out.p.c0 0 rfl;have L1:=hid (NumL.one (w:=w) (ids i));have b1:Below w.heap.size w (w.alloc (.cells #[.int .i64 (ids i)] 2)):=(Below.refl _ w).alloc (Nat.le_refl _) _;have O1:Hid (OwnI (w.alloc (.cells #[.int .i64 (ids i)] 2)) (w0.heap.size+1+1+1) v l):=hid (OwnI.alloc HK.out.o _);have hs:=HK.out.r.lt;have s1:w0.heap.size+1+1+1≤(w.alloc (.cells #[.int .i64 (ids i)] 2)).heap.size:=by simp;omega
  have P1:Hid (∀w':World,(w.alloc (.cells #[.int .i64 (ids i)] 2)).grownBy w' v.ownBlock→Blk w' (w0.heap.size+1) (.cells #[v] 34)):=hid (fun w' hg=>(HK.out.p.below b1).grown hg (fun e=>by have:=(World.ownsRow.lt HK.out.o _ e.symm).1;omega));clear b1;obtain⟨ka,kc,hkv⟩:=ownsRow_shape (HN.out.own i hi);have KV:=hid hkv;clear hkv;have D3:Hid (∀(a3:Option Addr) (c3:Nat) (w3:World),OwnI w3 (w0.heap.size+1+1+1) (.slice a3 (l++[ids i]).length c3) (l++[ids i])→(w.alloc (.cells #[.int .i64 (ids i)] 2)).grownBy w3 v.ownBlock→
   Walk w0 c (w3.setCell ⟨w0.heap.size+1,0,none⟩ (.slice a3 (l.length+1) c3)) (.slice a3 (l.length+1) c3) (l++[ids i])):=hid (fun a3 c3 w3 o3 g3=>HK.out.push (by simpa using o3) g3)
  have E3:Hid (∀(W:World) (v':Value) (l':List Int),Walk w0 c W v' l'→W.cell? ⟨w0.heap.size,0,none⟩=some (.map (some c))∧(Instr.lookup 59 (.map (some c)) (.int .i64 (ids i)) false).run Tryz.prog W= .ok (.pointer (some ⟨nb i,0,none⟩)) W∧W.cell? ⟨nb i,1,none⟩=some (.slice ka (kidsTo ids ups n i).length kc)):=hid (fun W v' l' hk=>by
   have N2:=HN.out.below hk.b;have LK:=N2.map.look (HW.out i hi);rw[findI_eq HR.out hi]at LK;exact⟨hk.q.c0 0 rfl,LK,by rw[←KV.out];exact(N2.blk i hi).c0 1 rfl⟩)
  have hm:(kidsTo ids ups n i).length≤271:=by have:=kidsTo_len ids ups n i;omega
  go_enter Tryz.func125,Tryz.ntmps125
  go_wp2_with(refine wpList_append_ints _ rfl _ _ rfl (w0.heap.size+1+1+1) v l rfl O1.out _ 1 1 [ids i] rfl rfl L1.out (by omega) s1 ?_;intro a3 c3 w3 o3 g3 v3;have p3:=P1.out w3 g3;have z1:_=some v:=p3.c0 0 rfl;have z2:=p3.warm 0;have K2:=hid (D3.out a3 c3 w3 o3 g3);obtain⟨y0,LK,y1⟩:=E3.out _ _ _ K2.out;clear o3 g3 v3 p3)
  clear z1 z2 y0 LK y1 x1 L1 O1 P1 D3 E3 HK s1;generalize w3.setCell ⟨w0.heap.size+1,0,none⟩ (.slice a3 (l.length+1) c3)=W at *;generalize Value.slice a3 (l.length+1) c3=v2 at *;clear hs;have hml:(kidsTo ids ups n i).length=(kidsI ids ups n i).length:=by rw[kidsTo_map,List.length_map]
  have HML:=hid hml;clear hml;go_loopw [18] (fun t wr=>∃(j:Nat) (v':Value),j≤(kidsTo ids ups n i).length∧t= .int .i64 j∧Hid (Walk w0 c wr v' (l++[ids i]++(((kidsI ids ups n i).take j).flatMap (preI ids ups n f)).map ids))) (fun t _=>(kidsTo ids ups n i).length-(intOf t).toNat)
  case atStart=>exact⟨0,v2,Nat.zero_le _,rfl,hid (by simpa using K2.out)⟩
  case round=>
   obtain⟨j,v',hj,rfl,HWk⟩:=hrel;clear K2;by_cases hlt:j<(kidsTo ids ups n i).length
   ·have i1:(j:Int)<((kidsTo ids ups n i).length:Int):=(by omega);have i0:(0:Int)≤(j:Int):=(by omega);have hj2:j<(kidsI ids ups n i).length:=(by have:=HML.out;omega);have ow:=(HN.out.below HWk.out.b).own i hi;rw[KV.out]at ow;obtain⟨b,o,rfl,_,hcc⟩:=OwnI.lies ow (by omega);have g1:wr.cell? ⟨b,o+j,none⟩=some (.int .i64 (ids (kidsI ids ups n i)[j])):=hcc j _ (by simp[kidsTo_map,hj2]);have r1:wr.cell? ⟨w0.heap.size+1+1,0,none⟩=some (walkFn w0.heap.size):=HWk.out.r.c0 0 rfl;unfold walkFn at r1;obtain⟨k1,k2⟩:=(mem_kids HR.out H0.out hi).1 (List.getElem_mem hj2);have CK:=hid (IH.out (kidsI ids ups n i)[j] _ v' wr k1 (fun a m ha e=>by
     have:=HH.out a (m+1) ha (by rw[parIt_succ',e];exact k2);omega) (by
     have h1:=HL.out;have h2:=flat_len (kidsI ids ups n i) (preI ids ups n f) j hj2;simp only[preI,List.length_cons]at h1;simp only[List.length_append,List.length_map,List.length_cons,List.length_nil];omega) HWk.out)
    have EX:Hid (l++[ids i]++(((kidsI ids ups n i).take j).flatMap (preI ids ups n f)).map ids++(preI ids ups n f (kidsI ids ups n i)[j]).map ids=l++[ids i]++(((kidsI ids ups n i).take (j+1)).flatMap (preI ids ups n f)).map ids):=hid (by
     rw[List.take_succ_eq_append_getElem hj2,List.flatMap_append,List.map_append];simp)
    generalize ids (kidsI ids ups n i)[j]=y at *;clear hcc ow k1 k2;go_wp2_with(go_at_call 125;refine CK.out.mono ?_;rintro e w4 ⟨v4,rfl,h4⟩;have H4:=hid h4;clear h4)
    have H5:=H4.out;rw[EX.out]at H5;exact⟨⟨j+1,v4,by omega,by go_num,hid H5⟩,by simp[intOf];omega⟩
   ·have e:j=(kidsI ids ups n i).length:=(by have:=HML.out;omega);have i1:¬(j:Int)<((kidsTo ids ups n i).length:Int):=(by omega);have H5:=HWk.out;rw[e,List.take_length]at H5;have H6:Hid (Walk w0 c wr v' (l++(preI ids ups n (f+1) i).map ids)):=hid (by simpa[preI]using H5);clear H5 e HWk;go_wp2;exact bodyPost_end (v:= .tuple #[]) (by simp[results,Tryz.results125,go_sem]) rfl ⟨rfl,_,H6.out⟩
theorem results72(tmps:Array Value)(W:World)(P:Nat)(x y:Value)(h:Blk W P (.cells #[x,y] 30))(h2:tmps[2]? =some (.pointer (some ⟨P,0,none⟩))):
 (results Tryz.f168 tmps).run Tryz.prog W= .ok (.agg #[x,y]) W:=by
 obtain⟨z0,z1⟩:=h.two;simp[results,Tryz.results168,go_sem,h2,z0,z1]
theorem OwnCats.madeAt(w:World)(B:Nat)(hb:B≤w.heap.size)(f g:Nat→Int):OwnCats (w.alloc (.cells #[] 88)) B (.slice (some ⟨w.heap.size,0,none⟩) 0 0) 0 f g:=World.ownsRow_made w #[] 0 hb (Nat.zero_le _) rfl
theorem OwnCats.newL{w:World}{B n c:Nat}{a:Option Addr}{f g:Nat→Int}(h:OwnCats w B (.slice a n c) n f g)(hn:n≤1048576):CatL.new B w ⟨a,n,c,f,g⟩:=
 ⟨⟨by unfold maxLen;simp only;omega,h.cats⟩,fun h0=>row_of_own h h0⟩
theorem l3CopyLabel_any(b:Int)(c:CatL)(w:World)(hc:c.at w)(hn:c.n≤1048576):
 Calls Tryz.prog 168 #[.agg #[.int .i64 b,c.val]] w fun e w'=>∃d:CatL,e= .returned (.agg #[.int .i64 b,d.val])∧c.same d∧d.new w.heap.size w'∧Below w.heap.size w w':=by
 obtain⟨a,n,cap,f,g⟩:=c;unfold CatL.val;simp only at hn ⊢;have b0:Below w.heap.size w ((w.alloc (.cells #[.int .i64 b,.slice a n cap] 30)).alloc (.cells #[.int .i64 0,.slice none 0 0] 30)):=((Below.refl _ w).alloc (Nat.le_refl _) _).alloc (by simp) _;have A0:=(Blk.new w (.cells #[.int .i64 b,.slice a n cap] 30)).alloc (.cells #[.int .i64 0,.slice none 0 0] 30);have R0:Blk ((w.alloc (.cells #[.int .i64 b,.slice a n cap] 30)).alloc (.cells #[.int .i64 0,.slice none 0 0] 30)) (w.heap.size+1) (.cells #[.int .i64 0,.slice none 0 0] 30):=by
  have:=Blk.new (w.alloc (.cells #[.int .i64 b,.slice a n cap] 30)) (.cells #[.int .i64 0,.slice none 0 0] 30);simpa using this
 have T0:=hid (hc.below b0).2;simp only at T0;obtain⟨x0,x1⟩:=A0.two;clear hc;go_enter Tryz.func168,Tryz.ntmps168
 go_wp2;generalize hV:((w.alloc (.cells #[.int .i64 b,.slice a n cap] 30)).alloc (.cells #[.int .i64 0,.slice none 0 0] 30))=V at *;have bm:Below V.heap.size V ((V.alloc (.cells #[] 88)).drew):=below_drew ((Below.refl _ V).alloc (Nat.le_refl _) _);have OM:Hid (OwnCats ((V.alloc (.cells #[] 88)).drew) w.heap.size (.slice (some ⟨V.heap.size,0,none⟩) 0 0) 0 f g):=hid (OwnCats.madeAt V w.heap.size b0.size f g);have TM:=hid (T0.out.below bm);have s1:w.heap.size≤((V.alloc (.cells #[] 88)).drew).heap.size:=(then_ b0 bm).size;have lm:n≤4194304:=by omega
 have R1:=hid (R0.below bm);have B1:=hid (then_ b0 bm);obtain⟨y0,y1⟩:=(A0.alloc (.cells #[] 88)).two;have px:¬w.heap.size=V.heap.size:=by have:=A0.lt;omega
 have vlt:w.heap.size+1<V.heap.size:=R0.lt;have RG:Hid (∀w3:World,((V.alloc (.cells #[] 88)).drew).grownBy w3 (some V.heap.size)→Blk w3 (w.heap.size+1) (.cells #[.int .i64 0,.slice none 0 0] 30)):=hid (fun w3 g3=>R1.out.grown g3 (by simp;omega));have A1:=hid (A0.below bm);have AG:Hid (∀w3:World,((V.alloc (.cells #[] 88)).drew).grownBy w3 (some V.heap.size)→Blk w3 w.heap.size (.cells #[.int .i64 b,.slice a n cap] 30)):=hid (fun w3 g3=>A1.out.grown g3 (by simp;omega));clear hV bm A0 R0 T0;go_region_law(refine step_append_cats0 _ (by rfl) _ _ (by rfl) w.heap.size (.slice (some ⟨V.heap.size,0,none⟩) 0 0) f g (by rfl) OM.out a n cap f g (by rfl) TM.out lm s1 ?_;intro a3 c3 w3 o3 g3 v3;have O3:=hid o3;have G3:=hid g3;have RR:=hid (RG.out w3 g3);obtain⟨r0,r1⟩:=RR.out.two;have rf:=RR.out.warm;obtain⟨q0,q1⟩:=(AG.out w3 g3).two;clear o3 g3 v3)
 all_goals(
  have B3:Hid (Below w.heap.size w w3):=hid (B1.out.trans (below_grown G3.out B1.out.size (fun j hj=>by cases hj;show w.heap.size≤V.heap.size;omega)));have N3:=hid (O3.out.newL hn);clear G3 O3 OM TM RG x0 x1 y0 y1 q0 q1 AG A1;go_wp2;refine bodyPost_ret (results72 _ _ (w.heap.size+1) (.int .i64 b) (.slice a3 n c3) ((RR.out.setAt (i:=0) _).setAt (i:=1) _) rfl) rfl ⟨⟨a3,n,c3,f,g⟩,rfl,⟨rfl,rfl,rfl⟩,?_,?_⟩
  ·refine N3.out.of (by simp) (fun q hq hn'=>?_);have q2:=N3.out.ne RR.out (by decide) q hq hn';iterate 2 rw[blk_setCell_other _ _ _ _ (by dsimp only;omega)]
  ·iterate 2 refine Below.setCell ?_ (by dsimp only;omega) _
   exact B3.out)
theorem grown_set{a b:World}{P:Nat}(h:a.grownBy b (some P))(i:Nat)(v:Value):a.grownBy (b.setCell ⟨P,i,none⟩ v) (some P):=
 ⟨h.os,h.tape,h.output,by rw[nblk_setCell];exact h.size,fun j hj hne=>(blk_setCell_other _ _ _ _ (by dsimp only;intro e;exact hne (by rw[e]))).trans (h.block j hj hne)⟩
theorem grown_refl(a:World)(P:Nat):a.grownBy a (some P):=⟨rfl,rfl,rfl,Nat.le_refl _,fun _ _ _=>rfl⟩
def RowI(w:World)(a:Option Addr)(b n:Nat):Prop:=0<n→a=some ⟨b,0,none⟩∧∃m F,n≤m∧w.rowIs b 2 m F
theorem RowI.below{w w':World}{a:Option Addr}{b n:Nat}(h:RowI w a b n)(hb:Below w.heap.size w w'):RowI w' a b n:=fun h0=>by
 obtain⟨e,m,F,hm,hr⟩:=h h0;exact⟨e,m,F,hm,hr.of_block (hb.block b hr.lt)⟩
theorem RowI.grown{w w':World}{a:Option Addr}{b n:Nat}{row:Option Nat}(h:RowI w a b n)(hg:w.grownBy w' row)(hne:some b≠row):RowI w' a b n:=fun h0=>by
 obtain⟨e,m,F,hm,hr⟩:=h h0;exact⟨e,m,F,hm,hr.of_block (hg.block b hr.lt hne)⟩
theorem RowI.lt{w:World}{a:Option Addr}{b n:Nat}(h:RowI w a b n)(h0:0<n):b<w.heap.size:=by
 obtain⟨_,m,F,_,hr⟩:=h h0;exact hr.lt
theorem IntsAt.grown{w w':World}{a:Option Addr}{b n:Nat}{h:Nat→Int}{row:Option Nat}(hc:IntsAt w a n h)(hr:RowI w a b n)(hg:w.grownBy w' row)(hne:0<n→some b≠row):IntsAt w' a n h:=fun h0=>by
 obtain⟨b',off,e,hlt,hcc⟩:=hc h0;obtain⟨e2,m,F,hm,hrow⟩:=hr h0;have e3:=e.symm.trans e2;simp only[Option.some.injEq,Addr.mk.injEq]at e3;obtain⟨rfl,_,_⟩:=e3;refine⟨b',off,e,Nat.lt_of_lt_of_le hlt hg.size,fun i hi=>?_⟩;have hb:=hg.block b' hlt (hne h0);exact(by simp only[World.cell?];rw[hb]:w'.cell? ⟨b',off+i,none⟩=w.cell? ⟨b',off+i,none⟩).trans (hcc i hi)
theorem OwnI.of_block{w w':World}{B:Nat}{v:Value}{l:List Int}(h:OwnI w B v l)(hb:∀g,v.ownBlock=some g→w'.heap[g]? =w.heap[g]?):OwnI w' B v l:=by
 refine⟨h.1,?_⟩;rcases h.2 with hn|⟨g,cap,cur,rfl,h1,h2,rest⟩
 ·exact .inl hn
 ·exact .inr ⟨g,cap,cur,rfl,h1,(hb g rfl).trans h2,rest⟩
theorem OwnI.below{w w':World}{B:Nat}{v:Value}{l:List Int}(h:OwnI w B v l)(hb:Below w.heap.size w w'):OwnI w' B v l:=h.of_block fun g hg=>hb.block g (World.ownsRow.lt h g hg).2
theorem OwnI.mk{lo hi:Nat}{w w':World}{B:Nat}{v:Value}{l:List Int}(h:OwnI w B v l)(hm:Mk lo hi w w')(hb:∀g,v.ownBlock=some g→g<lo∨hi≤g):OwnI w' B v l:=h.of_block fun g hg=>hm.block g (World.ownsRow.lt h g hg).2 (hb g hg)
theorem Mk.below{lo hi:Nat}{w w0 w':World}(h0:Below w0.heap.size w0 w)(h:Mk lo hi w w')(hB:w0.heap.size≤lo):Below w0.heap.size w0 w':=
 ⟨h.os.trans h0.os,h.tape.trans h0.tape,h.output.trans h0.output,Nat.le_trans h0.size h.size,fun k hk=>(h.block k (Nat.lt_of_lt_of_le hk h0.size) (.inl (by omega))).trans (h0.block k hk)⟩
theorem results57(tmps:Array Value)(W:World)(P:Nat)(x0 x1 x2 x3 x4 x5 x6:Value)(h:Blk W P (.cells #[x0,x1,x2,x3,x4,x5,x6] 75))(h2:tmps[2]? =some (.pointer (some ⟨P,0,none⟩))):
 (results Tryz.f164 tmps).run Tryz.prog W= .ok (.agg #[x0,x1,x2,x3,x4,x5,x6]) W:=by
 obtain⟨z0,z1,z2,z3,z4,z5,z6⟩:=h.seven;simp[results,Tryz.results164,go_sem,h2,z0,z1,z2,z3,z4,z5,z6]
theorem own_cap{w:World}{B e size n c:Nat}{a:Option Addr}{xs:List Value}(h:w.ownsRow B e size (.slice a n c) n xs):n≤c∧c≤maxLen:=by
 rcases h.2 with⟨hv,hn⟩|⟨g,cap,cur,hv,_,_,h1,h2,_⟩
 ·simp only[Value.slice.injEq]at hv;exact⟨by omega,by rw[hv.2.2];exact Nat.zero_le _⟩
 ·simp only[Value.slice.injEq]at hv;rw[hv.2.2];exact⟨h1,h2⟩
theorem step_append_int0{ops:Array Oper}{o:Oper}{a:Act}{w:World}{K:Act→World→Prop}{Q:Exit→Act→World→Prop}{E:Prop}(hgd:o.guard=none)(s x:Operand)
 (ho:o.op= .call {callee:= .builtin .append,args:=#[s,x],argTypes:=#[34,34]})
 (B:Nat)(g:Nat)(hs:a.eval s= .slice (some ⟨g,0,none⟩) 0 0)(hown:OwnI w B (.slice (some ⟨g,0,none⟩) 0 0) [])(ad:Option Addr)(m c:Nat)(f:Nat→Int)(hx:a.eval x= .slice ad m c)(hc:IntsAt w ad m f)
 (hm:m≤1048576)(hB:B≤w.heap.size)
 (h:∀a' c' w',IntL.new B w' ⟨a',m,c',f⟩→(m≤c'∧c'≤maxLen)→w.grownBy w' (some g)→K (a.put o.dst (.slice a' m c')) w'):
 if Region.wanted o (yielded ops a.tmps)=true then Oper.wp Tryz.prog o a w K Q else E:=by
 have hw:Region.wanted o (yielded ops a.tmps)=true:=by simp[Region.wanted,hgd]
 rw[if_pos hw];have L0:=hc.intL;have el:((List.range m).map f).length=m:=by simp
 have L:LiesC w ad m (((List.range m).map f).map (Value.int .i64)):=by unfold NumL at L0;rw[el]at L0;exact L0
 refine wp_append_gen Tryz.underlying34 Tryz.info2 rfl (by omega) w s x ho B _ 0 [] hs hown ad m c (((List.range m).map f).map (Value.int .i64)) hx (by simp) L (fun u hu=>by obtain⟨y,_,rfl⟩:=List.mem_map.1 hu;rfl) (by omega) (by omega) hB fun a' c' w' h2 h3 _=>?_;rw[Nat.zero_add,List.nil_append]at h2;rw[Nat.zero_add];refine h a' c' w' ?_ (own_cap h2) h3;have ho':OwnI w' B (.slice a' ((List.range m).map f).length c') ((List.range m).map f):=by unfold OwnI;rw[el];exact h2
 have hi:IntsAt w' a' m f:=fun h0=>by
  obtain⟨b,off,e,hlt,hcc⟩:=(OwnI.lies ho').ints (by rw[el];exact h0);refine⟨b,off,e,hlt,fun i hi=>?_⟩;have:=hcc i (by rw[el];exact hi);rw[this];simp[nthI,hi]
 exact⟨⟨by unfold maxLen;simp only;omega,hi⟩,fun h0=>by have:=row_of_own h2 h0;simpa using this⟩
theorem row_own_ne{w:World}{B b m g:Nat}{F:Nat→Value}(hr:w.rowIs b 88 m F)(ho:OwnI w B (.slice (some ⟨g,0,none⟩) 0 0) []):b≠g:=fun e=>by
 obtain⟨cur,hb⟩:=own_block ho (g:=g) rfl;obtain⟨c,h1,_⟩:=hr;rw[e,hb]at h1;simp at h1
theorem CatL.new.over{B:Nat}{w w':World}{c:CatL}(h:c.new B w)(hs:w.heap.size≤w'.heap.size)(hb:∀b m F,w.rowIs b 88 m F→w'.heap[b]? =w.heap[b]?):c.new B w':=h.of hs (fun b e hn=>by
 obtain⟨b',m,F,e',_,_,hr⟩:=h.2 hn;rw[e]at e';cases e';exact hb b m F hr)
theorem l3CopyThread_cap(t:ThrV)(w:World)(ht:t.at w)(hs:t.small):
 Calls Tryz.prog 164 #[t.val] w fun e w'=>∃u:ThrV,e= .returned u.val∧t.same u∧u.new w.heap.size w'∧(u.own.n≤u.own.k∧u.own.k≤maxLen)∧Below w.heap.size w w':=by
 have b0:Below w.heap.size w ((w.alloc t.blk).alloc (.cells #[.int .i64 0,.int .i64 0,.slice none 0 0,.int .i64 0,.slice none 0 0,.slice none 0 0,.int .i64 0] 75)):=((Below.refl _ w).alloc (Nat.le_refl _) _).alloc (by simp) _;have A0:=(Blk.new w t.blk).alloc (.cells #[.int .i64 0,.int .i64 0,.slice none 0 0,.int .i64 0,.slice none 0 0,.slice none 0 0,.int .i64 0] 75);have R0:Blk ((w.alloc t.blk).alloc (.cells #[.int .i64 0,.int .i64 0,.slice none 0 0,.int .i64 0,.slice none 0 0,.slice none 0 0,.int .i64 0] 75)) (w.heap.size+1) (.cells #[.int .i64 0,.int .i64 0,.slice none 0 0,.int .i64 0,.slice none 0 0,.slice none 0 0,.int .i64 0] 75):=by
  have:=Blk.new (w.alloc t.blk) (.cells #[.int .i64 0,.int .i64 0,.slice none 0 0,.int .i64 0,.slice none 0 0,.slice none 0 0,.int .i64 0] 75);simpa using this
 have T0:=hid (ht.below b0);unfold ThrV.blk at b0 A0 R0 T0;unfold ThrV.val;obtain⟨x0,x1,x2,x3,x4,x5,x6⟩:=A0.seven;obtain⟨m1,m2,m3⟩:=hs;clear ht;unfold IntL.val at *;go_enter Tryz.func164,Tryz.ntmps164
 go_wp2;generalize hV:((w.alloc (.cells #[.int .i64 t.id,.int .i64 t.b1,t.c1.val,.int .i64 t.b2,t.c2.val,.slice t.own.a t.own.n t.own.k,.int .i64 t.made] 75)).alloc (.cells #[.int .i64 0,.int .i64 0,.slice none 0 0,.int .i64 0,.slice none 0 0,.slice none 0 0,.int .i64 0] 75))=V at *;have B0:=hid b0;have A0':Hid (∀W,Below V.heap.size V W→Blk W w.heap.size (.cells #[.int .i64 t.id,.int .i64 t.b1,t.c1.val,.int .i64 t.b2,t.c2.val,.slice t.own.a t.own.n t.own.k,.int .i64 t.made] 75)):=hid (fun W h=>A0.below h);have R0':=hid R0;have PA:Hid (∀W,Below V.heap.size V W→Calls Tryz.prog 168 #[.agg #[.int .i64 t.b1,t.c1.val]] W fun e w'=>∃d:CatL,e= .returned (.agg #[.int .i64 t.b1,.slice d.a d.n d.k])∧t.c1.same d∧d.new W.heap.size w'∧Below W.heap.size W w'):=hid (fun W hW=>l3CopyLabel_any t.b1 t.c1 W (T0.out.below hW).1 m1);have PB:Hid (∀W,Below V.heap.size V W→Calls Tryz.prog 168 #[.agg #[.int .i64 t.b2,t.c2.val]] W fun e w'=>∃d:CatL,e= .returned (.agg #[.int .i64 t.b2,.slice d.a d.n d.k])∧t.c2.same d∧d.new W.heap.size w'∧Below W.heap.size W w'):=hid (fun W hW=>l3CopyLabel_any t.b2 t.c2 W (T0.out.below hW).2.1 m2);have TO:Hid (∀W,Below V.heap.size V W→IntsAt W t.own.a t.own.n t.own.h):=hid (fun W hW=>(T0.out.below hW).2.2.2);clear hV b0 A0 R0;have V0:Hid (Below V.heap.size V V.drew):=hid (Below.refl _ V).drew;have V0a:Hid (Below V.heap.size V ((V.alloc (.cells #[] 2)).drew)):=hid (below_drew ((Below.refl _ V).alloc (Nat.le_refl _) _));have EO0:Hid (OwnI ((V.alloc (.cells #[] 2)).drew) w.heap.size (.slice (some ⟨V.heap.size,0,none⟩) 0 0) []):=hid (OwnI.made V w.heap.size B0.out.size);have lt0:w.heap.size<V.heap.size:=(A0'.out V (Below.refl _ V)).lt;have nx0:¬w.heap.size=V.heap.size:=by omega
 obtain⟨y0,y1,y2,y3,y4,y5,y6⟩:=(A0'.out _ V0a.out).seven;have ne1:¬w.heap.size=w.heap.size+1:=by omega
 have ne2:¬w.heap.size+1=w.heap.size:=by omega
 have mk1:True:=trivial;have mk2:True:=trivial;go_region_held3(fun w'=>w'.cell? ⟨w.heap.size,0,none⟩=some (.int .i64 t.id)∧w'.cell? ⟨w.heap.size,1,none⟩=some (.int .i64 t.b1)∧w'.cell? ⟨w.heap.size,2,none⟩=some t.c1.val∧w'.cell? ⟨w.heap.size,3,none⟩=some (.int .i64 t.b2)∧w'.cell? ⟨w.heap.size,4,none⟩=some t.c2.val∧w'.cell? ⟨w.heap.size,5,none⟩=some (.slice t.own.a t.own.n t.own.k)∧w'.cell? ⟨w.heap.size,6,none⟩=some (.int .i64 t.made)) (first|go_keep|(simp only[*,and_self]))
  (first
    |(go_at_call 168;have mq:=mk1;clear mk1;first|(refine(PA.out _ V0.out).mono ?_;rintro e w1 ⟨d1,rfl,s1,n1,h1⟩;have V1:=hid (then_ V0.out h1);have LN1:=hid (n1.low (Nat.le_trans B0.out.size V0.out.size));have S1:=hid s1;obtain⟨e0,e1,e2,e3,e4,e5,e6⟩:=(A0'.out _ V1.out).seven;have V1a:=hid (V1.out.alloc V1.out.size (.cells #[] 2));have lt1:w.heap.size<w1.heap.size:=(A0'.out _ V1.out).lt;have nx1:¬w.heap.size=w1.heap.size:=(by omega);obtain⟨p0,p1,p2,p3,p4,p5,p6⟩:=(A0'.out _ V1a.out).seven)|(refine(PA.out _ V0a.out).mono ?_;rintro e w1 ⟨d1,rfl,s1,n1,h1⟩;have V1:=hid (then_ V0a.out h1);have LN1:=hid (n1.low (Nat.le_trans B0.out.size V0a.out.size));have S1:=hid s1;obtain⟨e0,e1,e2,e3,e4,e5,e6⟩:=(A0'.out _ V1.out).seven;have EO1:=hid (EO0.out.below h1);have V1a:=hid (V1.out.alloc V1.out.size (.cells #[] 2));have lt1:w.heap.size<w1.heap.size:=(A0'.out _ V1.out).lt;have nx1:¬w.heap.size=w1.heap.size:=(by omega);obtain⟨p0,p1,p2,p3,p4,p5,p6⟩:=(A0'.out _ V1a.out).seven))
    |(go_at_call 168;have mq':=mk2;clear mk2;first|(refine(PB.out _ V1.out).mono ?_;rintro e w2 ⟨d2,rfl,s2,n2,h2⟩;have V2:=hid (then_ V1.out h2);have LN2:=hid (n2.low (Nat.le_trans B0.out.size V1.out.size));have H12:=hid h2;have S2:=hid s2;obtain⟨f0,f1,f2,f3,f4,f5,f6⟩:=(A0'.out _ V2.out).seven;have EO2:=hid (EO1.out.below h2);have V2a:=hid (V2.out.alloc V2.out.size (.cells #[] 2));have lt2:w.heap.size<w2.heap.size:=(A0'.out _ V2.out).lt;have nx2:¬w.heap.size=w2.heap.size:=(by omega);obtain⟨r0,r1,r2,r3,r4,r5,r6⟩:=(A0'.out _ V2a.out).seven)|(refine(PB.out _ V1.out).mono ?_;rintro e w2 ⟨d2,rfl,s2,n2,h2⟩;have V2:=hid (then_ V1.out h2);have LN2:=hid (n2.low (Nat.le_trans B0.out.size V1.out.size));have H12:=hid h2;have S2:=hid s2;obtain⟨f0,f1,f2,f3,f4,f5,f6⟩:=(A0'.out _ V2.out).seven;have V2a:=hid (V2.out.alloc V2.out.size (.cells #[] 2));have lt2:w.heap.size<w2.heap.size:=(A0'.out _ V2.out).lt;have nx2:¬w.heap.size=w2.heap.size:=(by omega);obtain⟨r0,r1,r2,r3,r4,r5,r6⟩:=(A0'.out _ V2a.out).seven)|(have EOm:=hid (OwnI.made w1 w.heap.size (Nat.le_trans B0.out.size V1.out.size));(refine(PB.out _ V1a.out).mono ?_;rintro e w2 ⟨d2,rfl,s2,n2,h2⟩;have V2:=hid (then_ V1a.out h2);have LN2:=hid (n2.low (Nat.le_trans B0.out.size V1a.out.size));have H12:=hid (then_ ((Below.refl _ w1).alloc (Nat.le_refl _) (.cells #[] 2)) h2);have S2:=hid s2;obtain⟨f0,f1,f2,f3,f4,f5,f6⟩:=(A0'.out _ V2.out).seven;have EO2:=hid (EOm.out.below h2);have V2a:=hid (V2.out.alloc V2.out.size (.cells #[] 2));have lt2:w.heap.size<w2.heap.size:=(A0'.out _ V2.out).lt;have nx2:¬w.heap.size=w2.heap.size:=(by omega);obtain⟨r0,r1,r2,r3,r4,r5,r6⟩:=(A0'.out _ V2a.out).seven)))
    |(refine step_append_int0 (by rfl) _ _ (by rfl) w.heap.size V.heap.size (by rfl) EO2.out _ _ _ t.own.h (by rfl) (TO.out _ V2.out) m3 (V2.out.size |> Nat.le_trans B0.out.size) ?_;intro a3 c3 w3 n3 cp3 g3;have CAP:=hid cp3;clear cp3;have HB3:Hid (∀b m F,w2.rowIs b 88 m F→w3.heap[b]? =w2.heap[b]?):=hid (fun b m F hr=>g3.block b hr.lt (fun e=>row_own_ne hr EO2.out (Option.some.inj e)));have SZ3:=hid g3.size;have NG:Hid (∀k,k<V.heap.size→some k≠some V.heap.size):=hid (fun k hk e=>Nat.lt_irrefl _ (Nat.lt_of_lt_of_le (Option.some.inj e▸hk) (Nat.le_refl _)));have B3:Hid (Below V.heap.size V w3):=hid (V2.out.trans (below_grown g3 V2.out.size (fun j hj=>by cases hj;exact Nat.le_refl _)));have X3:=hid (V2.out);obtain⟨g0,g1,g2,g3',g4,g5,g6⟩:=(A0'.out _ B3.out).seven;obtain⟨k0,k1,k2,k3,k4,k5,k6⟩:=(R0'.out.below B3.out).seven;have kf:=(R0'.out.below B3.out).warm;have N3:=hid n3;have G3:=hid g3;clear n3 g3)
    |(refine step_append_int0 (by rfl) _ _ (by rfl) w.heap.size w1.heap.size (by rfl) EO2.out _ _ _ t.own.h (by rfl) (TO.out _ V2.out) m3 (V2.out.size |> Nat.le_trans B0.out.size) ?_;intro a3 c3 w3 n3 cp3 g3;have CAP:=hid cp3;clear cp3;have HB3:Hid (∀b m F,w2.rowIs b 88 m F→w3.heap[b]? =w2.heap[b]?):=hid (fun b m F hr=>g3.block b hr.lt (fun e=>row_own_ne hr EO2.out (Option.some.inj e)));have SZ3:=hid g3.size;have NG:Hid (∀k,k<V.heap.size→some k≠some w1.heap.size):=hid (fun k hk e=>Nat.lt_irrefl _ (Nat.lt_of_lt_of_le (Option.some.inj e▸hk) (V1.out.size)));have B3:Hid (Below V.heap.size V w3):=hid (V2.out.trans (below_grown g3 V2.out.size (fun j hj=>by cases hj;exact V1.out.size)));have X3:=hid (V2.out);obtain⟨g0,g1,g2,g3',g4,g5,g6⟩:=(A0'.out _ B3.out).seven;obtain⟨k0,k1,k2,k3,k4,k5,k6⟩:=(R0'.out.below B3.out).seven;have kf:=(R0'.out.below B3.out).warm;have N3:=hid n3;have G3:=hid g3;clear n3 g3)
    |(refine step_append_int0 (by rfl) _ _ (by rfl) w.heap.size w2.heap.size (by rfl) (OwnI.made w2 w.heap.size (Nat.le_trans B0.out.size V2.out.size)) _ _ _ t.own.h (by rfl) (TO.out _ V2a.out) m3 (V2a.out.size |> Nat.le_trans B0.out.size) ?_;intro a3 c3 w3 n3 cp3 g3;have CAP:=hid cp3;clear cp3;have HB3:Hid (∀b m F,w2.rowIs b 88 m F→w3.heap[b]? =w2.heap[b]?):=hid (fun b m F hr=>(g3.block b (Nat.lt_of_lt_of_le hr.lt ((Below.refl _ w2).alloc (Nat.le_refl _) (.cells #[] 2)).size) (fun e=>Nat.ne_of_lt hr.lt (Option.some.inj e))).trans (blk_alloc_lt _ _ _ hr.lt));have SZ3:=hid (Nat.le_trans ((Below.refl _ w2).alloc (Nat.le_refl _) (.cells #[] 2)).size g3.size);have NG:Hid (∀k,k<V.heap.size→some k≠some w2.heap.size):=hid (fun k hk e=>Nat.lt_irrefl _ (Nat.lt_of_lt_of_le (Option.some.inj e▸hk) (V2.out.size)));have B3:Hid (Below V.heap.size V w3):=hid (V2a.out.trans (below_grown g3 V2a.out.size (fun j hj=>by cases hj;exact V2.out.size)));have X3:=hid (V2a.out);obtain⟨g0,g1,g2,g3',g4,g5,g6⟩:=(A0'.out _ B3.out).seven;obtain⟨k0,k1,k2,k3,k4,k5,k6⟩:=(R0'.out.below B3.out).seven;have kf:=(R0'.out.below B3.out).warm;have N3:=hid n3;have G3:=hid g3;clear n3 g3))
 all_goals(
  have Q1:=hid ((LN1.out.below H12.out).over SZ3.out HB3.out);have Q2:=hid (LN2.out.over SZ3.out HB3.out);have BB:=hid (then_ B0.out B3.out);have RR:=hid (R0'.out.below B3.out);clear LN1 LN2 H12 HB3 SZ3 G3 NG X3 V0 V0a EO0 PA PB TO A0';go_wp2;refine bodyPost_ret (results57 _ _ (w.heap.size+1) (.int .i64 t.id) (.int .i64 t.b1) (.slice d1.a d1.n d1.k) (.int .i64 t.b2) (.slice d2.a d2.n d2.k) (.slice a3 t.own.n c3) (.int .i64 t.made) (Blk.all7 RR.out _ _ _ _ _ _ _) rfl) rfl ⟨⟨t.id,t.b1,d1,t.b2,d2,⟨a3,t.own.n,c3,t.own.h⟩,t.made⟩,rfl,⟨rfl,rfl,S1.out,rfl,S2.out,⟨rfl,rfl⟩,rfl⟩,⟨?_,?_,?_⟩,CAP.out,?_⟩
  ·refine Q1.out.of (by simp) (fun g hg hn'=>?_);have q2:=Q1.out.ne RR.out (by decide) g hg hn';iterate 7 rw[blk_setCell_other _ _ _ _ (by dsimp only;omega)]
  ·refine Q2.out.of (by simp) (fun g hg hn'=>?_);have q2:=Q2.out.ne RR.out (by decide) g hg hn';iterate 7 rw[blk_setCell_other _ _ _ _ (by dsimp only;omega)]
  ·refine N3.out.of (by simp) (fun g hg hn'=>?_);have q2:=N3.out.ne RR.out (by decide) g hg hn';iterate 7 rw[blk_setCell_other _ _ _ _ (by dsimp only;omega)]
  ·iterate 7 refine Below.setCell ?_ (by dsimp only;omega) _
   exact BB.out)
end Go.Proofs.YtbacmamplkdgaaaGreatDoor
