import Derived.Test.YtblapfnglojgjaaGreatDoorZ4k
set_option maxRecDepth 100000
set_option maxHeartbeats 8000000
namespace Go.Proofs.YtblapfnglojgjaaGreatDoor
open Go Go.RowKit Go.Deep Go.Maps Go.Proofs.Tryz
section
variable {t e size bytes:Nat}{z:Value} (hT:prog.underlying t=some (.slice e)) (hI:(prog.info? e).map (fun i=>(i.zero,i.size,i.bytes))=some (some z,size,bytes)) (hzs:z.cells.size=size) (hsz:0<size)
include hT hI hzs hsz
theorem Ix{ops:Array Oper}{rest:List Oper}{o:Oper}{a:Act}{Q:Exit->Act->World->Prop}(w:World)(hgd:o.guard=none)(s x:Operand)
 (ho:o.op= .call {callee:= .builtin .append,args:=#[s,x],argTypes:=#[t,t]})
 (B:Nat)(v:Value)(n:Nat)(cs:List Value)(hs:a.eval s=v)(hown:w.ownsRow B e size v n cs)(ad:Option Addr)(m c:Nat)(cs':List Value)(hx:a.eval x= .slice ad m c)(hl:cs'.length=m*size)(hc:Bh w ad m cs')(h1:∀u∈cs',u.oneCell'=true)
 (hm:n+m<=4194304)(hby:(n+m)*bytes<=140737488355328)(hB:B<=w.heap.size)
 (h:∀a' c' w',w'.ownsRow B e size (.slice a' (n+m) c') (n+m) (cs++cs')->w.grownBy w' v.ownBlock->wpList prog ops Q rest (a.put o.dst (.slice a' (n+m) c')) w'):wpList prog ops Q (o::rest) a w:=
 wpList_plain hgd fun _ hK=>BR hT hI hzs hsz w s x ho B v n cs hs hown ad m c cs' hx hl hc h1 hm hby hB fun a' c' w' h2 h3 _=>hK _ _ (h a' c' w' h2 h3)
end
def AH.new(B:Nat)(w:World)(c:AH):Prop:=c.at w/\(0<c.n->∃b m F,c.a=some ⟨b,0,none⟩/\B<=b/\c.n*2<=m/\w.rowIs b 96 m F)
def AU.new(B:Nat)(w:World)(c:AU):Prop:=c.at w/\(0<c.n->∃b m F,c.a=some ⟨b,0,none⟩/\B<=b/\c.n<=m/\w.rowIs b 2 m F)
def AX.new(B:Nat)(w:World)(c:AX):Prop:=c.at w/\(0<c.n->∃b m F,c.a=some ⟨b,0,none⟩/\B<=b/\(c.n<=m/\m=c.k)/\w.rowIs b 9 m F)
theorem AH.new.below{B:Nat}{w w':World}{c:AH}(h:c.new B w)(hb:Below w w w'):c.new B w':=⟨h.1.below hb,fun hn=>by
 obtain⟨b,m,F,e,h1,h2,h3⟩:=h.2 hn;exact⟨b,m,F,e,h1,h2,Nc h3 hb⟩⟩
theorem AU.new.below{B:Nat}{w w':World}{c:AU}(h:c.new B w)(hb:Below w w w'):c.new B w':=⟨h.1.below hb,fun hn=>by
 obtain⟨b,m,F,e,h1,h2,h3⟩:=h.2 hn;exact⟨b,m,F,e,h1,h2,Nc h3 hb⟩⟩
theorem AX.new.below{B:Nat}{w w':World}{c:AX}(h:c.new B w)(hb:Below w w w'):c.new B w':=⟨h.1.below hb,fun hn=>by
 obtain⟨b,m,F,e,h1,h2,h3⟩:=h.2 hn;exact⟨b,m,F,e,h1,h2,Nc h3 hb⟩⟩
theorem AH.new.low{B B':Nat}{w:World}{c:AH}(h:c.new B w)(hB:B'<=B):c.new B' w:=⟨h.1,fun hn=>by
 obtain⟨b,m,F,e,h1,h2,h3⟩:=h.2 hn;exact⟨b,m,F,e,by omega,h2,h3⟩⟩
theorem AU.new.low{B B':Nat}{w:World}{c:AU}(h:c.new B w)(hB:B'<=B):c.new B' w:=⟨h.1,fun hn=>by
 obtain⟨b,m,F,e,h1,h2,h3⟩:=h.2 hn;exact⟨b,m,F,e,by omega,h2,h3⟩⟩
theorem AX.new.low{B B':Nat}{w:World}{c:AX}(h:c.new B w)(hB:B'<=B):c.new B' w:=⟨h.1,fun hn=>by
 obtain⟨b,m,F,e,h1,h2,h3⟩:=h.2 hn;exact⟨b,m,F,e,by omega,h2,h3⟩⟩
theorem Gu{w:World}{B e size n c:Nat}{a:Option Addr}{cs:List Value}(h:w.ownsRow B e size (.slice a n c) n cs)(hn:0<n):∃b m F,a=some ⟨b,0,none⟩/\B<=b/\n*size<=m/\w.rowIs b e m F:=by
 rcases h.2 with⟨_,h0⟩|⟨g,cap,cur,hv,h1,h2,h3,h4,h5,h6⟩
 ·omega
 ·simp only[Value.slice.injEq]at hv;obtain⟨rfl,_,rfl⟩:=hv;exact⟨g,cur.size,fun i=>cur[i]?.getD undef,rfl,h1,by rw[h5];exact Nat.mul_le_mul_right _ h3,⟨cur,h2,rfl,fun i hi=>by simp[hi]⟩⟩
theorem UD{w:World}{B e n c:Nat}{a:Option Addr}{cs:List Value}(h:w.ownsRow B e 1 (.slice a n c) n cs)(hn:0<n):∃b m F,a=some ⟨b,0,none⟩/\B<=b/\(n<=m/\m=c)/\w.rowIs b e m F:=by
 rcases h.2 with⟨_,h0⟩|⟨g,cap,cur,hv,h1,h2,h3,h4,h5,h6⟩
 ·omega
 ·simp only[Value.slice.injEq]at hv;obtain⟨rfl,_,rfl⟩:=hv;exact⟨g,cur.size,fun i=>cur[i]?.getD undef,rfl,h1,⟨by rw[h5];omega,by rw[h5];omega⟩,⟨cur,h2,rfl,fun i hi=>by simp[hi]⟩⟩
theorem QJ{w:World}{a:Option Addr}{n:Nat}{f:Nat->ByteArray}(h:JF w a n f):Bh w a n ((List.range n).map (fun i=>Value.string (f i))):=fun hn=>by
 obtain⟨b,off,e,hlt,hc⟩:=h hn;refine⟨b,off,e,hlt,fun j u hu=>?_⟩;by_cases hj:j<n
 ·simp[hj]at hu;rw[<-hu];exact hc j hj
 ·simp[hj]at hu
variable {B P t:Nat}{w w':World}{c:AH}
theorem AH.new.of(h:c.new B w)(hs:w.heap.size<=w'.heap.size)(hb:∀b,c.a=some ⟨b,0,none⟩->0<c.n->w'.heap[b]? =w.heap[b]?):c.new B w':=
 ⟨⟨h.1.1,fun hn=>by
   obtain⟨b,off,e,hlt,hc⟩:=h.1.2 hn;obtain⟨b',_,_,e',_⟩:=h.2 hn;have eb:=e.symm.trans e';cases eb;have ce:∀o,w'.cell? ⟨b,o,none⟩=w.cell? ⟨b,o,none⟩:=fun o=>World.cell?_of_block (a:=⟨b,o,none⟩) (hb b e' hn);exact⟨b,0,e,Nat.lt_of_lt_of_le hlt hs,fun i hi=>by rw[ce,ce];exact hc i hi⟩⟩,fun hn=>by
   obtain⟨b,m,F,e,h1,h2,h3⟩:=h.2 hn;exact⟨b,m,F,e,h1,h2,h3.of_block (hb b e hn)⟩⟩
theorem AH.new.ne(h:c.new B w){cs:Array Value}(hP:Ai w P (.cells cs t))(ht:t≠96):∀b,c.a=some ⟨b,0,none⟩->0<c.n->b≠P:=fun b e hn=>by
 obtain⟨b',m,F,e',_,_,h3⟩:=h.2 hn;rw[e]at e';cases e';exact Hb h3 hP.row (fun e=>ht e.symm)
theorem AU.new.of{c:AU}(h:c.new B w)(hs:w.heap.size<=w'.heap.size)(hb:∀b,c.a=some ⟨b,0,none⟩->0<c.n->w'.heap[b]? =w.heap[b]?):c.new B w':=
 ⟨⟨h.1.1,fun hn=>by
   obtain⟨b,off,e,hlt,hc⟩:=h.1.2 hn;obtain⟨b',_,_,e',_⟩:=h.2 hn;have eb:=e.symm.trans e';cases eb;have ce:∀o,w'.cell? ⟨b,o,none⟩=w.cell? ⟨b,o,none⟩:=fun o=>World.cell?_of_block (a:=⟨b,o,none⟩) (hb b e' hn);exact⟨b,0,e,Nat.lt_of_lt_of_le hlt hs,fun i hi=>by rw[ce];exact hc i hi⟩⟩,fun hn=>by
   obtain⟨b,m,F,e,h1,h2,h3⟩:=h.2 hn;exact⟨b,m,F,e,h1,h2,h3.of_block (hb b e hn)⟩⟩
theorem AU.new.ne{c:AU}(h:c.new B w){cs:Array Value}(hP:Ai w P (.cells cs t))(ht:t≠2):∀b,c.a=some ⟨b,0,none⟩->0<c.n->b≠P:=fun b e hn=>by
 obtain⟨b',m,F,e',_,_,h3⟩:=h.2 hn;rw[e]at e';cases e';exact Hb h3 hP.row (fun e=>ht e.symm)
theorem AX.new.of{c:AX}(h:c.new B w)(hs:w.heap.size<=w'.heap.size)(hb:∀b,c.a=some ⟨b,0,none⟩->0<c.n->w'.heap[b]? =w.heap[b]?):c.new B w':=
 ⟨⟨h.1.1,fun hn=>by
   obtain⟨b,off,e,hlt,hc⟩:=h.1.2.1 hn;obtain⟨b',_,_,e',_⟩:=h.2 hn;have eb:=e.symm.trans e';cases eb;have ce:∀o,w'.cell? ⟨b,o,none⟩=w.cell? ⟨b,o,none⟩:=fun o=>World.cell?_of_block (a:=⟨b,o,none⟩) (hb b e' hn);exact⟨b,0,e,Nat.lt_of_lt_of_le hlt hs,fun i hi=>by rw[ce];exact hc i hi⟩,h.1.2.2⟩,fun hn=>by
   obtain⟨b,m,F,e,h1,h2,h3⟩:=h.2 hn;exact⟨b,m,F,e,h1,h2,h3.of_block (hb b e hn)⟩⟩
theorem AX.new.ne{c:AX}(h:c.new B w){cs:Array Value}(hP:Ai w P (.cells cs t))(ht:t≠9):∀b,c.a=some ⟨b,0,none⟩->0<c.n->b≠P:=fun b e hn=>by
 obtain⟨b',m,F,e',_,_,h3⟩:=h.2 hn;rw[e]at e';cases e';exact Hb h3 hP.row (fun e=>ht e.symm)
open Go.BigFrame Go.Shelf
variable {W:World}{P t:Nat}
theorem Kq{ops:Array Oper}{o:Oper}{a:Act}{w:World}{K:Act->World->Prop}{Q:Exit->Act->World->Prop}{E:Prop}(hgd:o.guard=none)(f:Nat)(x:Operand)(ats:Array TypeId)
 (ho:o.op= .call {callee:= .value (.func f),args:=#[x],argTypes:=ats})(eg:∀args w,(callFunc f args).run prog w= .ok (.enter f args) w)(v0:Value)(hv:a.eval x=v0)
 (R:Value->World->Prop)(hc:Calls prog f #[v0] w fun e w'=>∃v,e= .returned v/\R v w')(h:∀v w',R v w'->K (a.put o.dst v) w'):
 if Region.wanted o (yielded ops a.tmps)=true then Oper.wp prog o a w K Q else E:=by
 have hw:Region.wanted o (yielded ops a.tmps)=true:=by simp[Region.wanted,hgd]
 rw[if_pos hw];have e:(execOp a.eval o).run prog w= .ok (.enter f #[v0]) w:=by
  unfold execOp;simp only[ho,resolve,invoke,Sem.run_bind,List.map_toArray,List.map_cons,List.map_nil,hv];simp[go_sem,eg,Act.eval]
 unfold Oper.wp;rw[e,Oper.upon_enter];exact hc.mono fun e w' ⟨v,he,hr⟩=>by subst he;exact h v w' hr
def Af.new(B:Nat)(w:World)(t:Af):Prop:=t.c1.new B w/\t.c2.new B w/\t.own.new B w
def Af.apart(t:Af):Prop:=∀b b',t.c1.a=some ⟨b,0,none⟩->0<t.c1.n->t.c2.a=some ⟨b',0,none⟩->0<t.c2.n->b≠b'
theorem Ai.seven{x0 x1 x2 x3 x4 x5 x6:Value}(h:Ai W P (.cells #[x0,x1,x2,x3,x4,x5,x6] t)):W.cell? ⟨P,0,none⟩=some x0/\W.cell? ⟨P,1,none⟩=some x1/\W.cell? ⟨P,2,none⟩=some x2/\W.cell? ⟨P,3,none⟩=some x3/\W.cell? ⟨P,4,none⟩=some x4/\W.cell? ⟨P,5,none⟩=some x5/\W.cell? ⟨P,6,none⟩=some x6:=by
 unfold Ai at h;simp[World.cell?,h]
theorem Ai.all7{z0 z1 z2 z3 z4 z5 z6:Value}(h:Ai W P (.cells #[z0,z1,z2,z3,z4,z5,z6] t))(x0 x1 x2 x3 x4 x5 x6:Value):
 Ai (((((((W.setCell ⟨P,0,none⟩ x0).setCell ⟨P,1,none⟩ x1).setCell ⟨P,2,none⟩ x2).setCell ⟨P,3,none⟩ x3).setCell ⟨P,4,none⟩ x4).setCell ⟨P,5,none⟩ x5).setCell ⟨P,6,none⟩ x6) P (.cells #[x0,x1,x2,x3,x4,x5,x6] t):=by
 have h0:Ai (W.setCell ⟨P,0,none⟩ x0) P (.cells #[x0,z1,z2,z3,z4,z5,z6] t):=h.jB (i:=0) x0;have h1:Ai ((W.setCell ⟨P,0,none⟩ x0).setCell ⟨P,1,none⟩ x1) P (.cells #[x0,x1,z2,z3,z4,z5,z6] t):=h0.jB (i:=1) x1;have h2:Ai (((W.setCell ⟨P,0,none⟩ x0).setCell ⟨P,1,none⟩ x1).setCell ⟨P,2,none⟩ x2) P (.cells #[x0,x1,x2,z3,z4,z5,z6] t):=h1.jB (i:=2) x2;have h3:Ai ((((W.setCell ⟨P,0,none⟩ x0).setCell ⟨P,1,none⟩ x1).setCell ⟨P,2,none⟩ x2).setCell ⟨P,3,none⟩ x3) P (.cells #[x0,x1,x2,x3,z4,z5,z6] t):=h2.jB (i:=3) x3;have h4:Ai (((((W.setCell ⟨P,0,none⟩ x0).setCell ⟨P,1,none⟩ x1).setCell ⟨P,2,none⟩ x2).setCell ⟨P,3,none⟩ x3).setCell ⟨P,4,none⟩ x4) P (.cells #[x0,x1,x2,x3,x4,z5,z6] t):=h3.jB (i:=4) x4;have h5:Ai ((((((W.setCell ⟨P,0,none⟩ x0).setCell ⟨P,1,none⟩ x1).setCell ⟨P,2,none⟩ x2).setCell ⟨P,3,none⟩ x3).setCell ⟨P,4,none⟩ x4).setCell ⟨P,5,none⟩ x5) P (.cells #[x0,x1,x2,x3,x4,x5,z6] t):=h4.jB (i:=5) x5;exact h5.jB (i:=6) x6
def Ae.new(B:Nat)(w:World)(t:Ae):Prop:=t.c1.new B w/\t.jA.new B w/\t.own.new B w/\t.c2.new B w
def Ae.apart(t:Ae):Prop:=∀b b',t.c1.a=some ⟨b,0,none⟩->0<t.c1.n->t.c2.a=some ⟨b',0,none⟩->0<t.c2.n->b≠b'
def Ko:Obj:= .cells #[.int .i64 0,.int .i64 0,.int .i64 0,.int .i64 0,.slice none 0 0,.string (ByteArray.mk #[]),.slice none 0 0,.slice none 0 0,.int .i64 0,.slice none 0 0] 51
def OR(N:Nat):Value:= .func (.func 84) #[] #[.pointer (some ⟨N+1,0,none⟩),.pointer N,.pointer (some ⟨N+1+1,0,none⟩)]
structure ME(w0:World)(c:Nat)(w:World)(v:Value)(l:List Int):Prop where
 b:Below w0 w0 w
 q:Ai w w0 (.cells #[.map (some c)] 98)
 p:Ai w (w0.heap.size+1) (.cells #[v] 45)
 r:Ai w (w0.heap.size+1+1) (.cells #[OR w0.heap.size] 127)
 o:AQ w (w0.heap.size+1+1+1) v l
theorem Ai.grown{w w':World}{P:Nat}{o:Obj}{row:Option Nat}(h:Ai w P o)(hg:w.grownBy w' row)(hne:some P≠row):Ai w' P o:=(hg.block P h.lt hne).trans h
theorem ME.push{w0 w w':World}{c:Nat}{v v':Value}{l:List Int}{x:Int}(h:ME w0 c w v l)(ho:AQ w' (w0.heap.size+1+1+1) v' (l++[x]))(hg:(w.alloc (.cells #[.int .i64 x] 2)).grownBy w' v.ownBlock):
 ME w0 c (w'.setCell ⟨w0.heap.size+1,0,none⟩ v') v' (l++[x]):=by
 have b1:Below w w (w.alloc (.cells #[.int .i64 x] 2)):=CY w _;have hne:∀k,k<w0.heap.size+1+1+1->some k≠v.ownBlock:=fun k hk e=>by have:=(World.ownsRow.lt h.o k e.symm).1;omega
 have p1:=(h.p.below b1).grown hg (hne _ (by omega));have q1:=(h.q.below b1).grown hg (hne _ (by omega));have r1:=(h.r.below b1).grown hg (hne _ (by omega));refine⟨?_,q1.other (by omega) _,?_,r1.other (by omega) _,?_⟩
 ·exact((h.b.trans (b1.mono h.b.size)).trans (below_grown hg (by have:=h.q.lt;simp;omega) (fun j hj=>by have:=(World.ownsRow.lt h.o j hj).1;omega))).setCell (by dsimp only;omega) _
 ·simpa using p1.jB (i:=0) v'
 ·exact World.ownsRow.kept ho (row:=some (w0.heap.size+1)) ⟨rfl,rfl,rfl,by rw[nblk_setCell];exact Nat.le_refl _,fun j hj hne=>blk_setCell_other _ _ _ _ (by dsimp only;intro e;exact hne (by rw[e]))⟩ (.inr (fun e=>by have:=(World.ownsRow.lt ho _ e).1;omega))
theorem Jo(ids ups:Nat->Int)(n i:Nat):BI ids ups n i=(Dv ids ups n i).map ids:=rfl
theorem Zm(l:List Nat)(f:Nat->List Nat)(j:Nat)(hj:j<l.length):((l.take j).flatMap f).length+(f l[j]).length<=(l.flatMap f).length:=by
 have e:l=l.take j++(l[j]::l.drop (j+1)):=by simp
 have:l.flatMap f=(l.take j).flatMap f++(f l[j]++(l.drop (j+1)).flatMap f):=by
  conv=>lhs;rw[e]
  rw[List.flatMap_append,List.flatMap_cons]
 rw[this,List.length_append,List.length_append];omega
theorem Yw(w0:World)(B c n:Nat)(ids ups:Nat->Int)(ob off:Nat)(nb:Nat->Nat)(kv:Nat->Value)(hN:Gl w0 B c n ids ob off nb kv (BI ids ups n))(hr:Dt ids n)(h0:∀j,j<n->ids j≠ups 0)
 (hw:∀i,i<n->(Lit.int .i64 (ids i)).wf=true)(hn:n<=271)(f:Nat):
 ∀(i:Nat) (l:List Int) (v:Value) (w:World),i<n->(∀j m,j<n->Bn ids ups n m j=some i->m<f)->l.length+(Gd ids ups n f i).length<=271->ME w0 c w v l->
  Calls prog 84 #[.int .i64 (ids i),.pointer (some ⟨w0.heap.size+1,0,none⟩),.pointer (w0),.pointer (some ⟨w0.heap.size+1+1,0,none⟩)] w fun e w'=>
   ∃v',e= .returned (.tuple #[])/\ME w0 c w' v' (l++(Gd ids ups n f i).map ids):=by
 have HN:=hid hN;have HR:=hid hr;have H0:=hid h0;have HW:=hid hw;clear hN hr h0 hw;induction f with
 |zero=>intro i l v w hi hh;exact absurd (hh i 0 hi rfl) (by omega)
 |succ f ih=>
  intro i l v w hi hh hl hk;have IH:=hid ih;have HH:=hid hh;have HK:=hid hk;have hlen:l.length+1<=271:=by simp[Gd]at hl;omega
  have HL:=hid hl;clear ih hh hk hl;have x1:_=some v:=HK.out.p.c0 0 rfl;have L1:=hid (D9.one (w:=w) (ids i));have n1:Nw (w.alloc (.cells #[.int .i64 (ids i)] 2)):=⟨⟩;have b1:Below w w n1:=CY w _;have O1:Hid (AQ n1 (w0.heap.size+1+1+1) v l):=hid (AQ.alloc HK.out.o _);have hs:=HK.out.r.lt;have s1:w0.heap.size+1+1+1<=(n1:World).heap.size:=by simp;omega
  have P1:Hid (∀w':World,(n1:World).grownBy w' v.ownBlock->Ai w' (w0.heap.size+1) (.cells #[v] 45)):=hid (fun w' hg=>(HK.out.p.below b1).grown hg (fun e=>by have:=(World.ownsRow.lt HK.out.o _ e.symm).1;omega));clear b1;obtain⟨ka,kc,hkv⟩:=Cp (HN.out.own i hi);have KV:=hid hkv;clear hkv;have D3:Hid (∀(a3:Option Addr) (c3:Nat) (w3:World),AQ w3 (w0.heap.size+1+1+1) (.slice a3 (l++[ids i]).length c3) (l++[ids i])->(n1:World).grownBy w3 v.ownBlock->
   ME w0 c (w3.setCell ⟨w0.heap.size+1,0,none⟩ (.slice a3 (l.length+1) c3)) (.slice a3 (l.length+1) c3) (l++[ids i])):=hid (fun a3 c3 w3 o3 g3=>HK.out.push (by simpa using o3) g3)
  have E3:Hid (∀(W:World) (v':Value) (l':List Int),ME w0 c W v' l'->W.cell? ⟨w0,0,none⟩=some (.map (some c))/\(Instr.lookup 98 (.map (some c)) (.int .i64 (ids i)) false).run prog W= .ok (.pointer (nb i)) W/\W.cell? ⟨nb i,1,none⟩=some (.slice ka (BI ids ups n i).length kc)):=hid (fun W v' l' hk=>by
   have N2:=HN.out.below hk.b;have LK:=N2.map.look (HW i hi);rw[Dx HR.out hi]at LK;exact⟨hk.q.c0 0 rfl,LK,by rw[<-KV.out];exact(N2.blk i hi).c0 1 rfl⟩)
  have hm:(BI ids ups n i).length<=271:=by have:=Lm ids ups n i;omega
  go_enter func84,ntmps84
  go_wp2_with(refine DX _ rfl _ _ rfl (w0.heap.size+1+1+1) v l rfl O1 _ 1 1 [ids i] rfl rfl L1 (by omega) s1 ?_;intro a3 c3 w3 o3 g3 v3;have p3:=P1.out w3 g3;have z1:_=some v:=p3.c0 0 rfl;have z2:=p3.jC 0;have K2:=hid (D3.out a3 c3 w3 o3 g3);obtain⟨y0,LK,y1⟩:=E3.out _ _ _ K2.out;clear o3 g3 v3 p3)
  clear z1 z2 y0 LK y1 x1 L1 O1 P1 D3 E3 HK s1;generalize w3.setCell ⟨w0.heap.size+1,0,none⟩ (.slice a3 (l.length+1) c3)=W at *;generalize Value.slice a3 (l.length+1) c3=v2 at *;clear hs;have hml:(BI ids ups n i).length=(Dv ids ups n i).length:=by rw[Jo,List.length_map]
  have HML:=hid hml;clear hml;go_loopw [18] (fun t wr=>∃(j:Nat) (v':Value),j<=(BI ids ups n i).length/\t= .int .i64 j/\Hid (ME w0 c wr v' (l++[ids i]++(((Dv ids ups n i).take j).flatMap (Gd ids ups n f)).map ids))) (fun t _=>(BI ids ups n i).length-(intOf t).toNat)
  case atStart=>exact⟨0,v2,Nat.zero_le _,rfl,hid (by simpa using K2.out)⟩
  case round=>
   obtain⟨j,v',hj,rfl,HWk⟩:=hrel;clear K2;by_cases hlt:j<(BI ids ups n i).length
   ·have i1:(j:Int)<((BI ids ups n i).length:Int):=(by omega);have i0:(0:Int)<=(j:Int):=(by omega);have hj2:j<(Dv ids ups n i).length:=(by have:=HML.out;omega);have ow:=(HN.out.below HWk.out.b).own i hi;rw[KV.out]at ow;obtain⟨b,o,rfl,_,hcc⟩:=AQ.lies ow (by omega);have g1:wr.cell? ⟨b,o+j,none⟩=some (.int .i64 (ids (Dv ids ups n i)[j])):=hcc j _ (by simp[Jo,hj2]);have r1:wr.cell? ⟨w0.heap.size+1+1,0,none⟩=some (OR w0):=HWk.out.r.c0 0 rfl;unfold OR at r1;obtain⟨k1,k2⟩:=(Ge HR H0 hi).1 (List.getElem_mem hj2);have CK:=hid (IH.out (Dv ids ups n i)[j] _ v' wr k1 (fun a m ha e=>by
     have:=HH.out a (m+1) ha (by rw[DI,e];exact k2);omega) (by
     have h1:=HL.out;have h2:=Zm (Dv ids ups n i) (Gd ids ups n f) j hj2;simp only[Gd,List.length_cons]at h1;simp only[List.length_append,List.length_map,List.length_cons,List.length_nil];omega) HWk)
    have EX:Hid (l++[ids i]++(((Dv ids ups n i).take j).flatMap (Gd ids ups n f)).map ids++(Gd ids ups n f (Dv ids ups n i)[j]).map ids=l++[ids i]++(((Dv ids ups n i).take (j+1)).flatMap (Gd ids ups n f)).map ids):=hid (by
     rw[List.take_succ_eq_append_getElem hj2,List.flatMap_append,List.map_append];simp)
    generalize ids (Dv ids ups n i)[j]=y at *;clear hcc ow k1 k2;go_wp2_with(go_at_call 84;refine CK.out.mono ?_;rintro e w4 ⟨v4,rfl,h4⟩;have H4:=hid h4;clear h4)
    have H5:=H4.out;rw[EX.out]at H5;exact⟨⟨j+1,v4,by omega,by go_num,hid H5⟩,by simp[intOf];omega⟩
   ·have e:j=(Dv ids ups n i).length:=(by have:=HML.out;omega);have i1:¬(j:Int)<((BI ids ups n i).length:Int):=(by omega);have H5:=HWk.out;rw[e,List.take_length]at H5;have H6:Hid (ME w0 c wr v' (l++(Gd ids ups n (f+1) i).map ids)):=hid (by simpa[Gd]using H5);clear H5 e HWk;go_wp2;exact bodyPost_end (v:= .tuple #[]) (by simp[results,Tryz.results84,go_sem]) rfl ⟨rfl,_,H6⟩
theorem Xg(tmps:Array Value)(W:World)(P:Nat)(x y:Value)(h:Ai W P (.cells #[x,y] 44))(h2:tmps[2]? =some (.pointer P)):
 (results Tryz.f110 tmps).run prog W= .ok (.agg #[x,y]) W:=by
 obtain⟨z0,z1⟩:=h.two;simp[results,Tryz.results110,go_sem,h2,z0,z1]
theorem As.madeAt(w:World)(B:Nat)(hb:B<=w.heap.size)(f g:Nat->Int):As (w.alloc (.cells #[] 96)) B (.slice (w) 0 0) 0 f g:=World.ownsRow_made w #[] 0 hb (Nat.zero_le _) rfl
theorem As.newL{w:World}{B n c:Nat}{a:Option Addr}{f g:Nat->Int}(h:As w B (.slice a n c) n f g)(hn:n<=1048576):AH.new B w ⟨a,n,c,f,g⟩:=
 ⟨⟨by unfold maxLen;simp only;omega,h.cats⟩,fun h0=>Gu h h0⟩
theorem Ct(b:Int)(c:AH)(w:World)(hc:c.at w)(hn:c.n<=1048576):
 Calls prog 110 #[.agg #[.int .i64 b,c.val]] w fun e w'=>∃d:AH,e= .returned (.agg #[.int .i64 b,d.val])/\c.same d/\d.new w w'/\Below w w w':=by
 obtain⟨a,n,cap,f,g⟩:=c;unfold AH.val;simp only at hn ⊢;have n1:No (.cells #[.int .i64 0,.slice none 0 0] 44):=⟨⟩;have n2:No (.cells #[.int .i64 b,.slice a n cap] 44):=⟨⟩;have b0:Below w w ((w.alloc n2).alloc n1):=(CY w _).alloc (by simp) _;have A0:=(Ai.new w n2).alloc n1;have R0:Ai ((w.alloc n2).alloc n1) (w.heap.size+1) n1:=by
  have:=Ai.new (w.alloc n2) n1;simpa using this
 have T0:=hid (hc.below b0).2;simp only at T0;obtain⟨x0,x1⟩:=A0.two;clear hc;go_enter func110,ntmps110
 go_wp2;generalize hV:((w.alloc n2).alloc n1)=V at *;have n3:Nw (V.alloc (.cells #[] 96)):=⟨⟩;have bm:Below V V ((n3:World).drew):=AE (CY V _);have n4:Nv (.slice (V) 0 0):=⟨⟩;have OM:Hid (As ((n3:World).drew) w n4 0 f g):=hid (As.madeAt V w b0.size f g);have TM:=hid (T0.out.below bm);have s1:w.heap.size<=((n3:World).drew).heap.size:=(Ac b0 bm).size;have lm:n<=4194304:=by omega
 have R1:=hid (R0.below bm);have B1:=hid (Ac b0 bm);obtain⟨y0,y1⟩:=(A0.alloc (.cells #[] 96)).two;have px:¬w.heap.size=V.heap.size:=by have:=A0.lt;omega
 have vlt:w.heap.size+1<V.heap.size:=R0.lt;have RG:Hid (∀w3:World,((n3:World).drew).grownBy w3 (some V)->Ai w3 (w.heap.size+1) n1):=hid (fun w3 g3=>R1.out.grown g3 (by simp;omega));have A1:=hid (A0.below bm);have AG:Hid (∀w3:World,((n3:World).drew).grownBy w3 (some V)->Ai w3 w n2):=hid (fun w3 g3=>A1.out.grown g3 (by simp;omega));clear hV bm A0 R0 T0;go_region_law(refine Ig _ (by rfl) _ _ (by rfl) w n4 f g (by rfl) OM a n cap f g (by rfl) TM lm s1 ?_;intro a3 c3 w3 o3 g3 v3;have O3:=hid o3;have G3:=hid g3;have RR:=hid (RG.out w3 g3);obtain⟨r0,r1⟩:=RR.out.two;have rf:=RR.out.jC;obtain⟨q0,q1⟩:=(AG w3 g3).two;clear o3 g3 v3)
 all_goals(
  have B3:Hid (Below w w w3):=hid (B1.out.trans (below_grown G3 B1.out.size (fun j hj=>by cases hj;show w.heap.size<=V.heap.size;omega)));have N3:=hid (O3.out.newL hn);clear G3 O3 OM TM RG x0 x1 y0 y1 q0 q1 AG A1;go_wp2;refine bodyPost_ret (Xg _ _ (w.heap.size+1) (.int .i64 b) (.slice a3 n c3) ((RR.out.jB (i:=0) _).jB (i:=1) _) rfl) rfl ⟨⟨a3,n,c3,f,g⟩,rfl,⟨rfl,rfl,rfl⟩,?_,?_⟩
  ·refine N3.out.of (by simp) (fun q hq hn'=>?_);have q2:=N3.out.ne RR (by decide) q hq hn';iterate 2 rw[blk_setCell_other _ _ _ _ (by dsimp only;omega)]
  ·iterate 2 refine Below.setCell ?_ (by dsimp only;omega) _
   exact B3.out)
variable {w w':World}{a:Option Addr}{b n B lo hi:Nat}{row:Option Nat}{v:Value}{l:List Int}
theorem Ck{a b:World}{P:Nat}(h:a.grownBy b (some P))(i:Nat)(v:Value):a.grownBy (b.setCell ⟨P,i,none⟩ v) (some P):=
 ⟨h.os,h.tape,h.output,by rw[nblk_setCell];exact h.size,fun j hj hne=>(blk_setCell_other _ _ _ _ (by dsimp only;intro e;exact hne (by rw[e]))).trans (h.block j hj hne)⟩
theorem Bs(a:World)(P:Nat):a.grownBy a (some P):=⟨rfl,rfl,rfl,Nat.le_refl _,fun _ _ _=>rfl⟩
def RQ(w:World)(a:Option Addr)(b n:Nat):Prop:=0<n->a=some ⟨b,0,none⟩/\∃m F,n<=m/\w.rowIs b 2 m F
theorem RQ.below(h:RQ w a b n)(hb:Below w w w'):RQ w' a b n:=fun h0=>by
 obtain⟨e,m,F,hm,hr⟩:=h h0;exact⟨e,m,F,hm,hr.of_block (hb.block b hr.lt)⟩
theorem RQ.grown(h:RQ w a b n)(hg:w.grownBy w' row)(hne:some b≠row):RQ w' a b n:=fun h0=>by
 obtain⟨e,m,F,hm,hr⟩:=h h0;exact⟨e,m,F,hm,hr.of_block (hg.block b hr.lt hne)⟩
theorem RQ.lt(h:RQ w a b n)(h0:0<n):b<w.heap.size:=by
 obtain⟨_,m,F,_,hr⟩:=h h0;exact hr.lt
theorem Ce.grown{h:Nat->Int}(hc:Ce w a n h)(hr:RQ w a b n)(hg:w.grownBy w' row)(hne:0<n->some b≠row):Ce w' a n h:=fun h0=>by
 obtain⟨b',off,e,hlt,hcc⟩:=hc h0;obtain⟨e2,m,F,hm,hrow⟩:=hr h0;have e3:=e.symm.trans e2;simp only[Option.some.injEq,Addr.mk.injEq]at e3;obtain⟨rfl,_,_⟩:=e3;refine⟨b',off,e,Nat.lt_of_lt_of_le hlt hg.size,fun i hi=>?_⟩;have hb:=hg.block b' hlt (hne h0);exact(by simp only[World.cell?];rw[hb]:w'.cell? ⟨b',off+i,none⟩=w.cell? ⟨b',off+i,none⟩).trans (hcc i hi)
theorem AQ.of_block(h:AQ w B v l)(hb:∀g,v.ownBlock=some g->w'.heap[g]? =w.heap[g]?):AQ w' B v l:=by
 refine⟨h.1,?_⟩;rcases h.2 with hn|⟨g,cap,cur,rfl,h1,h2,rest⟩
 ·exact .inl hn
 ·exact .inr ⟨g,cap,cur,rfl,h1,(hb g rfl).trans h2,rest⟩
theorem AQ.below(h:AQ w B v l)(hb:Below w w w'):AQ w' B v l:=h.of_block fun g hg=>hb.block g (World.ownsRow.lt h g hg).2
theorem AQ.mk(h:AQ w B v l)(hm:Mk lo hi w w')(hb:∀g,v.ownBlock=some g->g<lo∨hi<=g):AQ w' B v l:=h.of_block fun g hg=>hm.block g (World.ownsRow.lt h g hg).2 (hb g hg)
theorem Mk.below{w0:World}(h0:Below w0 w0 w)(h:Mk lo hi w w')(hB:w0.heap.size<=lo):Below w0 w0 w':=
 ⟨h.os.trans h0.os,h.tape.trans h0.tape,h.output.trans h0.output,Nat.le_trans h0.size h.size,fun k hk=>(h.block k (Nat.lt_of_lt_of_le hk h0.size) (.inl (by omega))).trans (h0.block k hk)⟩
variable {w:World}{B:Nat}
theorem Eb(tmps:Array Value)(W:World)(P:Nat)(x0 x1 x2 x3 x4 x5 x6:Value)(h:Ai W P (.cells #[x0,x1,x2,x3,x4,x5,x6] 47))(h2:tmps[2]? =some (.pointer P)):
 (results Tryz.f105 tmps).run prog W= .ok (.agg #[x0,x1,x2,x3,x4,x5,x6]) W:=by
 obtain⟨z0,z1,z2,z3,z4,z5,z6⟩:=h.seven;simp[results,Tryz.results105,go_sem,h2,z0,z1,z2,z3,z4,z5,z6]
theorem GH{e size n c:Nat}{a:Option Addr}{xs:List Value}(h:w.ownsRow B e size (.slice a n c) n xs):n<=c/\c<=maxLen:=by
 rcases h.2 with⟨hv,hn⟩|⟨g,cap,cur,hv,_,_,h1,h2,_⟩
 ·simp only[Value.slice.injEq]at hv;exact⟨by omega,by rw[hv.2.2];exact Nat.zero_le _⟩
 ·simp only[Value.slice.injEq]at hv;rw[hv.2.2];exact⟨h1,h2⟩
theorem Gz{ops:Array Oper}{o:Oper}{a:Act}{w:World}{K:Act->World->Prop}{Q:Exit->Act->World->Prop}{E:Prop}(hgd:o.guard=none)(s x:Operand)
 (ho:o.op= .call {callee:= .builtin .append,args:=#[s,x],argTypes:=#[45,45]})
 (B:Nat)(g:Nat)(hs:a.eval s= .slice g 0 0)(hown:AQ w B (.slice g 0 0) [])(ad:Option Addr)(m c:Nat)(f:Nat->Int)(hx:a.eval x= .slice ad m c)(hc:Ce w ad m f)
 (hm:m<=1048576)(hB:B<=w.heap.size)
 (h:∀a' c' w',AU.new B w' ⟨a',m,c',f⟩->(m<=c'/\c'<=maxLen)->w.grownBy w' (some g)->K (a.put o.dst (.slice a' m c')) w'):
 if Region.wanted o (yielded ops a.tmps)=true then Oper.wp prog o a w K Q else E:=by
 have hw:Region.wanted o (yielded ops a.tmps)=true:=by simp[Region.wanted,hgd]
 rw[if_pos hw];have L0:=hc.intL;have el:((List.range m).map f).length=m:=by simp
 have L:Bh w ad m (((List.range m).map f).map (Value.int .i64)):=by unfold D9 at L0;rw[el]at L0;exact L0
 refine BR underlying45 Tryz.info2 rfl (by omega) w s x ho B _ 0 [] hs hown ad m c (((List.range m).map f).map (Value.int .i64)) hx (by simp) L (fun u hu=>by obtain⟨y,_,rfl⟩:=List.mem_map.1 hu;rfl) (by omega) (by omega) hB fun a' c' w' h2 h3 _=>?_;rw[Nat.zero_add,List.nil_append]at h2;rw[Nat.zero_add];refine h a' c' w' ?_ (GH h2) h3;have ho':AQ w' B (.slice a' ((List.range m).map f).length c') ((List.range m).map f):=by unfold AQ;rw[el];exact h2
 have hi:Ce w' a' m f:=fun h0=>by
  obtain⟨b,off,e,hlt,hcc⟩:=(AQ.lies ho').ints (by rw[el];exact h0);refine⟨b,off,e,hlt,fun i hi=>?_⟩;have:=hcc i (by rw[el];exact hi);rw[this];simp[Bl,hi]
 exact⟨⟨by unfold maxLen;simp only;omega,hi⟩,fun h0=>by have:=Gu h2 h0;simpa using this⟩
theorem OG{b m g:Nat}{F:Nat->Value}(hr:w.rowIs b 96 m F)(ho:AQ w B (.slice g 0 0) []):b≠g:=fun e=>by
 obtain⟨cur,hb⟩:=MG ho (g:=g) rfl;obtain⟨c,h1,_⟩:=hr;rw[e,hb]at h1;simp at h1
theorem AH.new.over{w':World}{c:AH}(h:c.new B w)(hs:w.heap.size<=w'.heap.size)(hb:∀b m F,w.rowIs b 96 m F->w'.heap[b]? =w.heap[b]?):c.new B w':=h.of hs (fun b e hn=>by
 obtain⟨b',m,F,e',_,_,hr⟩:=h.2 hn;rw[e]at e';cases e';exact hb b m F hr)
theorem MK(t:Af)(w:World)(ht:t.at w)(hs:t.small):
 Calls prog 105 #[t.val] w fun e w'=>∃u:Af,e= .returned u.val/\t.same u/\u.new w w'/\(u.own.n<=u.own.k/\u.own.k<=maxLen)/\Below w w w':=by
 have n4:No (.cells #[.int .i64 0,.int .i64 0,.slice none 0 0,.int .i64 0,.slice none 0 0,.slice none 0 0,.int .i64 0] 47):=⟨⟩;have b0:Below w w ((w.alloc t.blk).alloc n4):=(CY w _).alloc (by simp) _;have A0:=(Ai.new w t.blk).alloc n4;have R0:Ai ((w.alloc t.blk).alloc n4) (w.heap.size+1) n4:=by
  have:=Ai.new (w.alloc t.blk) n4;simpa using this
 have T0:=hid (ht.below b0);unfold Af.blk at b0 A0 R0 T0;unfold Af.val;obtain⟨x0,x1,x2,x3,x4,x5,x6⟩:=A0.seven;obtain⟨m1,m2,m3⟩:=hs;clear ht;unfold AU.val at *;go_enter func105,ntmps105
 go_wp2;have n5:No (.cells #[t.id,t.b1,t.c1.val,t.b2,t.c2.val,t.own,t.made] 47):=⟨⟩;generalize hV:((w.alloc n5).alloc n4)=V at *;have B0:=hid b0;have A0':Hid (∀W,Below V V W->Ai W w n5):=hid (fun W h=>A0.below h);have R0':=hid R0;have PA:Hid (∀W,Below V V W->Calls prog 110 #[.agg #[t.b1,t.c1.val]] W fun e w'=>∃d:AH,e= .returned (.agg #[t.b1,d])/\t.c1.same d/\d.new W w'/\Below W W w'):=hid (fun W hW=>Ct t.b1 t.c1 W (T0.out.below hW).1 m1);have PB:Hid (∀W,Below V V W->Calls prog 110 #[.agg #[t.b2,t.c2.val]] W fun e w'=>∃d:AH,e= .returned (.agg #[t.b2,d])/\t.c2.same d/\d.new W w'/\Below W W w'):=hid (fun W hW=>Ct t.b2 t.c2 W (T0.out.below hW).2.1 m2);have TO:Hid (∀W,Below V V W->Ce W t.own.a t.own.n t.own.h):=hid (fun W hW=>(T0.out.below hW).2.2.2);clear hV b0 A0 R0;have V0:Hid (Below V V V.drew):=hid (Below.refl _ V).drew;have V0a:Hid (Below V V ((V.alloc (.cells #[] 2)).drew)):=hid (AE (CY V _));have EO0:Hid (AQ ((V.alloc (.cells #[] 2)).drew) w (.slice (V) 0 0) []):=hid (AQ.made V w B0.out.size);have lt0:w.heap.size<V.heap.size:=(A0' V (Below.refl _ V)).lt;have nx0:¬w.heap.size=V.heap.size:=by omega
 obtain⟨y0,y1,y2,y3,y4,y5,y6⟩:=(A0' _ V0a).seven;have ne1:¬w.heap.size=w.heap.size+1:=by omega
 have ne2:¬w.heap.size+1=w.heap.size:=by omega
 have mk1:True:=trivial;have mk2:True:=trivial;go_region_held3(fun w'=>w'.cell? ⟨w,0,none⟩=some (.int .i64 t.id)/\w'.cell? ⟨w,1,none⟩=some (.int .i64 t.b1)/\w'.cell? ⟨w,2,none⟩=some t.c1.val/\w'.cell? ⟨w,3,none⟩=some (.int .i64 t.b2)/\w'.cell? ⟨w,4,none⟩=some t.c2.val/\w'.cell? ⟨w,5,none⟩=some (.slice t.own.a t.own.n t.own.k)/\w'.cell? ⟨w,6,none⟩=some (.int .i64 t.made)) (first|go_keep|(simp only[*,and_self]))
  (first
    |(go_at_call 110;have mq:=mk1;clear mk1;first|(refine(PA _ V0).mono ?_;rintro e w1 ⟨d1,rfl,s1,n1,h1⟩;have V1:=hid (Ac V0 h1);have LN1:=hid (n1.low (Nat.le_trans B0.out.size V0.out.size));have S1:=hid s1;obtain⟨e0,e1,e2,e3,e4,e5,e6⟩:=(A0' _ V1).seven;have V1a:=hid (V1.out.alloc V1.out.size (.cells #[] 2));have lt1:w.heap.size<w1.heap.size:=(A0' _ V1).lt;have nx1:¬w.heap.size=w1.heap.size:=(by omega);obtain⟨p0,p1,p2,p3,p4,p5,p6⟩:=(A0' _ V1a).seven)|(refine(PA _ V0a).mono ?_;rintro e w1 ⟨d1,rfl,s1,n1,h1⟩;have V1:=hid (Ac V0a h1);have LN1:=hid (n1.low (Nat.le_trans B0.out.size V0a.out.size));have S1:=hid s1;obtain⟨e0,e1,e2,e3,e4,e5,e6⟩:=(A0' _ V1).seven;have EO1:=hid (EO0.out.below h1);have V1a:=hid (V1.out.alloc V1.out.size (.cells #[] 2));have lt1:w.heap.size<w1.heap.size:=(A0' _ V1).lt;have nx1:¬w.heap.size=w1.heap.size:=(by omega);obtain⟨p0,p1,p2,p3,p4,p5,p6⟩:=(A0' _ V1a).seven))
    |(go_at_call 110;have mq':=mk2;clear mk2;first|(refine(PB _ V1).mono ?_;rintro e w2 ⟨d2,rfl,s2,n2,h2⟩;have V2:=hid (Ac V1 h2);have LN2:=hid (n2.low (Nat.le_trans B0.out.size V1.out.size));have H12:=hid h2;have S2:=hid s2;obtain⟨f0,f1,f2,f3,f4,f5,f6⟩:=(A0' _ V2).seven;have EO2:=hid (EO1.out.below h2);have V2a:=hid (V2.out.alloc V2.out.size (.cells #[] 2));have lt2:w.heap.size<w2.heap.size:=(A0' _ V2).lt;have nx2:¬w.heap.size=w2.heap.size:=(by omega);obtain⟨r0,r1,r2,r3,r4,r5,r6⟩:=(A0' _ V2a).seven)|(refine(PB _ V1).mono ?_;rintro e w2 ⟨d2,rfl,s2,n2,h2⟩;have V2:=hid (Ac V1 h2);have LN2:=hid (n2.low (Nat.le_trans B0.out.size V1.out.size));have H12:=hid h2;have S2:=hid s2;obtain⟨f0,f1,f2,f3,f4,f5,f6⟩:=(A0' _ V2).seven;have V2a:=hid (V2.out.alloc V2.out.size (.cells #[] 2));have lt2:w.heap.size<w2.heap.size:=(A0' _ V2).lt;have nx2:¬w.heap.size=w2.heap.size:=(by omega);obtain⟨r0,r1,r2,r3,r4,r5,r6⟩:=(A0' _ V2a).seven)|(have EOm:=hid (AQ.made w1 w (Nat.le_trans B0.out.size V1.out.size));(refine(PB _ V1a).mono ?_;rintro e w2 ⟨d2,rfl,s2,n2,h2⟩;have V2:=hid (Ac V1a h2);have LN2:=hid (n2.low (Nat.le_trans B0.out.size V1a.out.size));have H12:=hid (Ac (CY w1 (.cells #[] 2)) h2);have S2:=hid s2;obtain⟨f0,f1,f2,f3,f4,f5,f6⟩:=(A0' _ V2).seven;have EO2:=hid (EOm.out.below h2);have V2a:=hid (V2.out.alloc V2.out.size (.cells #[] 2));have lt2:w.heap.size<w2.heap.size:=(A0' _ V2).lt;have nx2:¬w.heap.size=w2.heap.size:=(by omega);obtain⟨r0,r1,r2,r3,r4,r5,r6⟩:=(A0' _ V2a).seven)))
    |(refine Gz (by rfl) _ _ (by rfl) w V (by rfl) EO2 _ _ _ t.own.h (by rfl) (TO _ V2) m3 (V2.out.size |> Nat.le_trans B0.out.size) ?_;intro a3 c3 w3 n3 cp3 g3;have CAP:=hid cp3;clear cp3;have HB3:Hid (∀b m F,w2.rowIs b 96 m F->w3.heap[b]? =w2.heap[b]?):=hid (fun b m F hr=>g3.block b hr.lt (fun e=>OG hr EO2 (Option.some.inj e)));have SZ3:=hid g3.size;have NG:Hid (∀k,k<V.heap.size->some k≠some V):=hid (fun k hk e=>Nat.lt_irrefl _ (Nat.lt_of_lt_of_le (Option.some.inj e▸hk) (Nat.le_refl _)));have B3:Hid (Below V V w3):=hid (V2.out.trans (below_grown g3 V2.out.size (fun j hj=>by cases hj;exact Nat.le_refl _)));have X3:=hid (V2.out);obtain⟨g0,g1,g2,g3',g4,g5,g6⟩:=(A0' _ B3).seven;obtain⟨k0,k1,k2,k3,k4,k5,k6⟩:=(R0'.out.below B3).seven;have kf:=(R0'.out.below B3).jC;have N3:=hid n3;have G3:=hid g3;clear n3 g3)
    |(refine Gz (by rfl) _ _ (by rfl) w w1 (by rfl) EO2 _ _ _ t.own.h (by rfl) (TO _ V2) m3 (V2.out.size |> Nat.le_trans B0.out.size) ?_;intro a3 c3 w3 n3 cp3 g3;have CAP:=hid cp3;clear cp3;have HB3:Hid (∀b m F,w2.rowIs b 96 m F->w3.heap[b]? =w2.heap[b]?):=hid (fun b m F hr=>g3.block b hr.lt (fun e=>OG hr EO2 (Option.some.inj e)));have SZ3:=hid g3.size;have NG:Hid (∀k,k<V.heap.size->some k≠some w1):=hid (fun k hk e=>Nat.lt_irrefl _ (Nat.lt_of_lt_of_le (Option.some.inj e▸hk) (V1.out.size)));have B3:Hid (Below V V w3):=hid (V2.out.trans (below_grown g3 V2.out.size (fun j hj=>by cases hj;exact V1.out.size)));have X3:=hid (V2.out);obtain⟨g0,g1,g2,g3',g4,g5,g6⟩:=(A0' _ B3).seven;obtain⟨k0,k1,k2,k3,k4,k5,k6⟩:=(R0'.out.below B3).seven;have kf:=(R0'.out.below B3).jC;have N3:=hid n3;have G3:=hid g3;clear n3 g3)
    |(refine Gz (by rfl) _ _ (by rfl) w w2 (by rfl) (AQ.made w2 w (Nat.le_trans B0.out.size V2.out.size)) _ _ _ t.own.h (by rfl) (TO _ V2a) m3 (V2a.out.size |> Nat.le_trans B0.out.size) ?_;intro a3 c3 w3 n3 cp3 g3;have CAP:=hid cp3;clear cp3;have HB3:Hid (∀b m F,w2.rowIs b 96 m F->w3.heap[b]? =w2.heap[b]?):=hid (fun b m F hr=>(g3.block b (Nat.lt_of_lt_of_le hr.lt ((Below.refl _ w2).alloc (Nat.le_refl _) (.cells #[] 2)).size) (fun e=>Nat.ne_of_lt hr.lt (Option.some.inj e))).trans (blk_alloc_lt _ _ _ hr.lt));have SZ3:=hid (Nat.le_trans ((Below.refl _ w2).alloc (Nat.le_refl _) (.cells #[] 2)).size g3.size);have NG:Hid (∀k,k<V.heap.size->some k≠some w2):=hid (fun k hk e=>Nat.lt_irrefl _ (Nat.lt_of_lt_of_le (Option.some.inj e▸hk) (V2.out.size)));have B3:Hid (Below V V w3):=hid (V2a.out.trans (below_grown g3 V2a.out.size (fun j hj=>by cases hj;exact V2.out.size)));have X3:=hid (V2a.out);obtain⟨g0,g1,g2,g3',g4,g5,g6⟩:=(A0' _ B3).seven;obtain⟨k0,k1,k2,k3,k4,k5,k6⟩:=(R0'.out.below B3).seven;have kf:=(R0'.out.below B3).jC;have N3:=hid n3;have G3:=hid g3;clear n3 g3))
 all_goals(
  have Q1:=hid ((LN1.out.below H12).over SZ3 HB3);have Q2:=hid (LN2.out.over SZ3 HB3);have BB:=hid (Ac B0 B3);have RR:=hid (R0'.out.below B3);clear LN1 LN2 H12 HB3 SZ3 G3 NG X3 V0 V0a EO0 PA PB TO A0';go_wp2;refine bodyPost_ret (Eb _ _ (w.heap.size+1) (.int .i64 t.id) (.int .i64 t.b1) (.slice d1.a d1.n d1.k) (.int .i64 t.b2) (.slice d2.a d2.n d2.k) (.slice a3 t.own.n c3) (.int .i64 t.made) (Ai.all7 RR _ _ _ _ _ _ _) rfl) rfl ⟨⟨t.id,t.b1,d1,t.b2,d2,⟨a3,t.own.n,c3,t.own.h⟩,t.made⟩,rfl,⟨rfl,rfl,S1,rfl,S2,⟨rfl,rfl⟩,rfl⟩,⟨?_,?_,?_⟩,CAP,?_⟩
  ·refine Q1.out.of (by simp) (fun g hg hn'=>?_);have q2:=Q1.out.ne RR (by decide) g hg hn';iterate 7 rw[blk_setCell_other _ _ _ _ (by dsimp only;omega)]
  ·refine Q2.out.of (by simp) (fun g hg hn'=>?_);have q2:=Q2.out.ne RR (by decide) g hg hn';iterate 7 rw[blk_setCell_other _ _ _ _ (by dsimp only;omega)]
  ·refine N3.out.of (by simp) (fun g hg hn'=>?_);have q2:=N3.out.ne RR (by decide) g hg hn';iterate 7 rw[blk_setCell_other _ _ _ _ (by dsimp only;omega)]
  ·iterate 7 refine Below.setCell ?_ (by dsimp only;omega) _
   exact BB.out)
end Go.Proofs.YtblapfnglojgjaaGreatDoor
