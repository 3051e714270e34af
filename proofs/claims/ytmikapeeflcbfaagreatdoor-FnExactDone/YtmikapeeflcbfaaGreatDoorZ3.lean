import Derived.Test.YtmikapeeflcbfaaGreatDoorZ2
import Derived.Test.YtmikapeeflcbfaaGreatDoorZ1
set_option maxRecDepth 100000
set_option maxHeartbeats 4000000
namespace Go.Proofs.YtmikapeeflcbfaaGreatDoor
open Go Go.RowKit Go.Deep Go.Maps Go.Proofs.Tryz
theorem Tryz.info86:(prog.info? 86).map (fun i=>(i.zero,i.size,i.bytes))=some (some (.agg #[.int .i64 0,.int .i64 0,.slice none 0 0,.int .i64 0,.slice none 0 0,.slice none 0 0,.int .i64 0]),7,104):=by kernel_rfl
theorem Tryz.info88:(prog.info? 88).map (fun i=>(i.zero,i.size,i.bytes))=some (some (.agg #[.int .i64 0,.int .i64 0,.int .i64 0,.int .i64 0,.slice none 0 0,.string ⟨#[]⟩,.slice none 0 0,.slice none 0 0,.int .i64 0,.slice none 0 0]),10,152):=by kernel_rfl
def Ac.cs(v:Ac):List Value:=[.int .i64 v.id,.int .i64 v.b1,v.c1.val,.int .i64 v.b2,v.c2.val,v.own.val,.int .i64 v.made]
def BN(l:List Ac):List Value:=(l.map Ac.cs).flatten
theorem Ue(l:List Ac):(BN l).length=l.length*7:=by
 induction l with
 |nil=>rfl
 |cons x r ih=>simp[BN,Ac.cs]at *;omega
theorem Oi(l r:List Ac):BN (l++r)=BN l++BN r:=by simp[BN]
theorem SR{l:List Ac}:∀u∈BN l,u.oneCell'=true:=fun u hu=>by
 simp only[BN,List.mem_flatten,List.mem_map]at hu;obtain⟨_,⟨x,_,rfl⟩,h⟩:=hu;simp only[Ac.cs,List.mem_cons,List.not_mem_nil,or_false]at h;rcases h with rfl|rfl|rfl|rfl|rfl|rfl|rfl<;>rfl
theorem Tk{l:List Ac}:∀{i:Nat} (hi:i<l.length),(BN l)[i*7]? =some (.int .i64 (l[i]).id)∧(BN l)[i*7+1]? =some (.int .i64 (l[i]).b1)∧(BN l)[i*7+2]? =some ((l[i]).c1.val)∧(BN l)[i*7+3]? =some (.int .i64 (l[i]).b2)∧(BN l)[i*7+4]? =some ((l[i]).c2.val)∧(BN l)[i*7+5]? =some ((l[i]).own.val)∧(BN l)[i*7+6]? =some (.int .i64 (l[i]).made):=by
 induction l with
 |nil=>intro i hi;simp at hi
 |cons x r ih=>
  intro i hi;have e:BN (x::r)=Value.int .i64 x.id::Value.int .i64 x.b1::x.c1.val::Value.int .i64 x.b2::x.c2.val::x.own.val::Value.int .i64 x.made::BN r:=by simp[BN,Ac.cs]
  rw[e];cases i with
  |zero=>simp
  |succ i=>
   have h:=ih (i:=i) (by simpa using hi);have e1:(i+1)*7=i*7+1+1+1+1+1+1+1:=(by omega);rw[e1];simpa using h
def Dt(w:World)(B:Nat)(v:Value)(l:List Ac):Prop:=w.ownsRow B 86 7 v l.length (BN l)
def Ac.z:Ac:=⟨0,0,⟨none,0,0,fun _=>0,fun _=>0⟩,0,⟨none,0,0,fun _=>0,fun _=>0⟩,⟨none,0,0,fun _=>0⟩,0⟩
def As(l:List Ac)(i:Nat):Ac:=l.getD i Ac.z
theorem Dt.nil(w:World)(B:Nat):Dt w B (.slice none 0 0) []:=World.ownsRow_nil _ _ _ _
theorem Dt.made(w:World)(B:Nat)(hb:B≤w.heap.size):Dt (w.alloc (.cells #[] 86)) B (.slice (some ⟨w.heap.size,0,none⟩) 0 0) []:=World.ownsRow_made w #[] 0 hb (Nat.zero_le _) rfl
theorem Dt.shape{w:World}{B:Nat}{v:Value}{l:List Ac}(h:Dt w B v l):∃a c,v= .slice a l.length c:=Cw h
theorem Dt.grown{w w':World}{B:Nat}{row:Option Nat}{v:Value}{l:List Ac}(h:Dt w B v l)(hg:w.grownBy w' row)(hne:v.ownBlock=none∨v.ownBlock≠row):Dt w' B v l:=World.ownsRow.kept h hg hne
theorem Dt.below{w w':World}{B:Nat}{v:Value}{l:List Ac}(h:Dt w B v l)(hb:Below w.heap.size w w'):Dt w' B v l:=World.ownsRow.kept (row:=none) h ⟨hb.os,hb.tape,hb.output,hb.size,fun k hk _=>hb.block k hk⟩ (by cases v.ownBlock<;>simp)
theorem Dt.base{w:World}{B B':Nat}{v:Value}{l:List Ac}(h:Dt w B v l)(hB:B'≤B):Dt w B' v l:=by
 refine⟨h.1,?_⟩;rcases h.2 with hn|⟨g,cap,cur,hv,hbg,rest⟩
 ·exact .inl hn
 ·exact .inr ⟨g,cap,cur,hv,Nat.le_trans hB hbg,rest⟩
theorem Dt.lies{w:World}{B c:Nat}{a:Option Addr}{l:List Ac}(h:Dt w B (.slice a l.length c) l)(hat:∀x∈l,x.at w):E9 w a l.length (As l):=fun hn=>by
 obtain⟨b,off,e,hlt,hc⟩:=Bj.own h hn;refine⟨b,off,e,hlt,fun i hi=>?_⟩;have g:=Tk hi;have e1:As l i=l[i]:=by simp[As,hi]
 rw[e1];exact⟨⟨by have:=hc _ _ (g.1);exact this,by have:=hc _ _ (g.2.1);rw[←Nat.add_assoc]at this;exact this,by have:=hc _ _ (g.2.2.1);rw[←Nat.add_assoc]at this;exact this,by have:=hc _ _ (g.2.2.2.1);rw[←Nat.add_assoc]at this;exact this,by have:=hc _ _ (g.2.2.2.2.1);rw[←Nat.add_assoc]at this;exact this,by have:=hc _ _ (g.2.2.2.2.2.1);rw[←Nat.add_assoc]at this;exact this,by have:=hc _ _ (g.2.2.2.2.2.2);rw[←Nat.add_assoc]at this;exact this⟩,hat _ (List.getElem_mem hi)⟩
theorem Dt.one(w:World)(x:Ac):Bj (w.alloc (.cells #[.int .i64 x.id,.int .i64 x.b1,x.c1.val,.int .i64 x.b2,x.c2.val,x.own.val,.int .i64 x.made] 86)) (some ⟨w.heap.size,0,none⟩) 1 (BN [x]):=fun _=>by
 refine⟨w.heap.size,0,rfl,by simp,fun j u hu=>?_⟩;have h:=Ah.new w (.cells #[.int .i64 x.id,.int .i64 x.b1,x.c1.val,.int .i64 x.b2,x.c2.val,x.own.val,.int .i64 x.made] 86);have e:BN [x]=[.int .i64 x.id,.int .i64 x.b1,x.c1.val,.int .i64 x.b2,x.c2.val,x.own.val,.int .i64 x.made]:=by simp[BN,Ac.cs]
 rw[e]at hu;rw[Nat.zero_add];refine h.c0 j ?_;rw[←hu];simp only[List.getElem?_toArray]
theorem Mv(w:World)(tt:TypeId)(B:Nat)(v:Value)(l:List Ac)(hown:Dt w B v l)(ad:Option Addr)(c:Nat)(x:Ac)(hc:Bj w ad 1 (BN [x]))(hn:l.length≤1048576)(hB:B≤w.heap.size):
 ∃a' c' w',(Builtin.append_ #[33,33] tt #[v,.slice ad 1 c]).run prog w= .ok (.slice a' (l.length+1) c') w'∧Dt w' B (.slice a' (l.length+1) c') (l++[x])∧w.grownBy w' v.ownBlock:=by
 obtain⟨a',c',w',h1,h2,h3,_⟩:=Gr underlying33 Tryz.info86 rfl (by omega) w tt B v l.length (BN l) hown ad 1 c (BN [x]) (Ue [x]) hc SR (by omega) (by omega) hB;refine⟨a',c',w',h1,?_,h3⟩;unfold Dt;rw[List.length_append,Oi];exact h2
theorem Hy{ops:Array Oper}{oo:Oper}{a:Act}{w:World}{K:Act→World→Prop}{Q:Exit→Act→World→Prop}{E:Prop}(hgd:oo.guard=none)(s x:Operand)
 (ho:oo.op= .call {callee:= .builtin .append,args:=#[s,x],argTypes:=#[33,33]})
 (B:Nat)(v:Value)(l:List Ac)(hs:a.eval s=v)(hown:Dt w B v l)(ad:Option Addr)(c:Nat)(y:Ac)(hx:a.eval x= .slice ad 1 c)(hc:Bj w ad 1 (BN [y]))(hn:l.length≤1048576)(hB:B≤w.heap.size)
 (h:∀a' c' w',Dt w' B (.slice a' (l.length+1) c') (l++[y])→w.grownBy w' v.ownBlock→K (a.put oo.dst (.slice a' (l.length+1) c')) w'):
 if Region.wanted oo (yielded ops a.tmps)=true then Oper.wp prog oo a w K Q else E:=by
 have hw:Region.wanted oo (yielded ops a.tmps)=true:=by simp[Region.wanted,hgd]
 rw[if_pos hw];obtain⟨a',c',w',hr,h2,h3⟩:=Mv w oo.type B v l hown ad c y hc hn hB;unfold Oper.wp execOp;simp only[ho,resolve,invoke,builtin,Sem.run_bind,Sem.run_pure,Result.andThen_ok,List.map_toArray,List.map_cons,List.map_nil,hs,hx,hr];exact h a' c' w' h2 h3
def Ab.cs(v:Ab):List Value:=[.int .i64 v.id,.int .i64 v.kind,.int .i64 v.up,.int .i64 v.b1,v.c1.val,.string v.data,v.jA.val,v.own.val,.int .i64 v.b2,v.c2.val]
def Aw(l:List Ab):List Value:=(l.map Ab.cs).flatten
theorem FM(l:List Ab):(Aw l).length=l.length*10:=by
 induction l with
 |nil=>rfl
 |cons x r ih=>simp[Aw,Ab.cs]at *;omega
theorem Ig(l r:List Ab):Aw (l++r)=Aw l++Aw r:=by simp[Aw]
theorem Ln{l:List Ab}:∀u∈Aw l,u.oneCell'=true:=fun u hu=>by
 simp only[Aw,List.mem_flatten,List.mem_map]at hu;obtain⟨_,⟨x,_,rfl⟩,h⟩:=hu;simp only[Ab.cs,List.mem_cons,List.not_mem_nil,or_false]at h;rcases h with rfl|rfl|rfl|rfl|rfl|rfl|rfl|rfl|rfl|rfl<;>rfl
theorem Lc{l:List Ab}:∀{i:Nat} (hi:i<l.length),(Aw l)[i*10]? =some (.int .i64 (l[i]).id)∧(Aw l)[i*10+1]? =some (.int .i64 (l[i]).kind)∧(Aw l)[i*10+2]? =some (.int .i64 (l[i]).up)∧(Aw l)[i*10+3]? =some (.int .i64 (l[i]).b1)∧(Aw l)[i*10+4]? =some ((l[i]).c1.val)∧(Aw l)[i*10+5]? =some (.string (l[i]).data)∧(Aw l)[i*10+6]? =some ((l[i]).jA.val)∧(Aw l)[i*10+7]? =some ((l[i]).own.val)∧(Aw l)[i*10+8]? =some (.int .i64 (l[i]).b2)∧(Aw l)[i*10+9]? =some ((l[i]).c2.val):=by
 induction l with
 |nil=>intro i hi;simp at hi
 |cons x r ih=>
  intro i hi;have e:Aw (x::r)=Value.int .i64 x.id::Value.int .i64 x.kind::Value.int .i64 x.up::Value.int .i64 x.b1::x.c1.val::Value.string x.data::x.jA.val::x.own.val::Value.int .i64 x.b2::x.c2.val::Aw r:=by simp[Aw,Ab.cs]
  rw[e];cases i with
  |zero=>simp
  |succ i=>
   have h:=ih (i:=i) (by simpa using hi);have e1:(i+1)*10=i*10+1+1+1+1+1+1+1+1+1+1:=(by omega);rw[e1];simpa using h
def AI(w:World)(B:Nat)(v:Value)(l:List Ab):Prop:=w.ownsRow B 88 10 v l.length (Aw l)
def Ab.z:Ab:=⟨0,0,0,0,⟨none,0,0,fun _=>0,fun _=>0⟩,⟨#[]⟩,⟨none,0,0,fun _=>⟨#[]⟩⟩,⟨none,0,0,fun _=>0⟩,0,⟨none,0,0,fun _=>0,fun _=>0⟩⟩
def Aa(l:List Ab)(i:Nat):Ab:=l.getD i Ab.z
theorem AI.nil(w:World)(B:Nat):AI w B (.slice none 0 0) []:=World.ownsRow_nil _ _ _ _
theorem AI.made(w:World)(B:Nat)(hb:B≤w.heap.size):AI (w.alloc (.cells #[] 88)) B (.slice (some ⟨w.heap.size,0,none⟩) 0 0) []:=World.ownsRow_made w #[] 0 hb (Nat.zero_le _) rfl
theorem AI.shape{w:World}{B:Nat}{v:Value}{l:List Ab}(h:AI w B v l):∃a c,v= .slice a l.length c:=Cw h
theorem AI.grown{w w':World}{B:Nat}{row:Option Nat}{v:Value}{l:List Ab}(h:AI w B v l)(hg:w.grownBy w' row)(hne:v.ownBlock=none∨v.ownBlock≠row):AI w' B v l:=World.ownsRow.kept h hg hne
theorem AI.below{w w':World}{B:Nat}{v:Value}{l:List Ab}(h:AI w B v l)(hb:Below w.heap.size w w'):AI w' B v l:=World.ownsRow.kept (row:=none) h ⟨hb.os,hb.tape,hb.output,hb.size,fun k hk _=>hb.block k hk⟩ (by cases v.ownBlock<;>simp)
theorem AI.base{w:World}{B B':Nat}{v:Value}{l:List Ab}(h:AI w B v l)(hB:B'≤B):AI w B' v l:=by
 refine⟨h.1,?_⟩;rcases h.2 with hn|⟨g,cap,cur,hv,hbg,rest⟩
 ·exact .inl hn
 ·exact .inr ⟨g,cap,cur,hv,Nat.le_trans hB hbg,rest⟩
theorem AI.lies{w:World}{B c:Nat}{a:Option Addr}{l:List Ab}(h:AI w B (.slice a l.length c) l)(hat:∀x∈l,x.at w):Et w a l.length (Aa l):=fun hn=>by
 obtain⟨b,off,e,hlt,hc⟩:=Bj.own h hn;refine⟨b,off,e,hlt,fun i hi=>?_⟩;have g:=Lc hi;have e1:Aa l i=l[i]:=by simp[Aa,hi]
 rw[e1];exact⟨⟨by have:=hc _ _ (g.1);exact this,by have:=hc _ _ (g.2.1);rw[←Nat.add_assoc]at this;exact this,by have:=hc _ _ (g.2.2.1);rw[←Nat.add_assoc]at this;exact this,by have:=hc _ _ (g.2.2.2.1);rw[←Nat.add_assoc]at this;exact this,by have:=hc _ _ (g.2.2.2.2.1);rw[←Nat.add_assoc]at this;exact this,by have:=hc _ _ (g.2.2.2.2.2.1);rw[←Nat.add_assoc]at this;exact this,by have:=hc _ _ (g.2.2.2.2.2.2.1);rw[←Nat.add_assoc]at this;exact this,by have:=hc _ _ (g.2.2.2.2.2.2.2.1);rw[←Nat.add_assoc]at this;exact this,by have:=hc _ _ (g.2.2.2.2.2.2.2.2.1);rw[←Nat.add_assoc]at this;exact this,by have:=hc _ _ (g.2.2.2.2.2.2.2.2.2);rw[←Nat.add_assoc]at this;exact this⟩,hat _ (List.getElem_mem hi)⟩
theorem AI.one(w:World)(x:Ab):Bj (w.alloc (.cells #[.int .i64 x.id,.int .i64 x.kind,.int .i64 x.up,.int .i64 x.b1,x.c1.val,.string x.data,x.jA.val,x.own.val,.int .i64 x.b2,x.c2.val] 88)) (some ⟨w.heap.size,0,none⟩) 1 (Aw [x]):=fun _=>by
 refine⟨w.heap.size,0,rfl,by simp,fun j u hu=>?_⟩;have h:=Ah.new w (.cells #[.int .i64 x.id,.int .i64 x.kind,.int .i64 x.up,.int .i64 x.b1,x.c1.val,.string x.data,x.jA.val,x.own.val,.int .i64 x.b2,x.c2.val] 88);have e:Aw [x]=[.int .i64 x.id,.int .i64 x.kind,.int .i64 x.up,.int .i64 x.b1,x.c1.val,.string x.data,x.jA.val,x.own.val,.int .i64 x.b2,x.c2.val]:=by simp[Aw,Ab.cs]
 rw[e]at hu;rw[Nat.zero_add];refine h.c0 j ?_;rw[←hu];simp only[List.getElem?_toArray]
theorem H9(w:World)(tt:TypeId)(B:Nat)(v:Value)(l:List Ab)(hown:AI w B v l)(ad:Option Addr)(c:Nat)(x:Ab)(hc:Bj w ad 1 (Aw [x]))(hn:l.length≤1048576)(hB:B≤w.heap.size):
 ∃a' c' w',(Builtin.append_ #[34,34] tt #[v,.slice ad 1 c]).run prog w= .ok (.slice a' (l.length+1) c') w'∧AI w' B (.slice a' (l.length+1) c') (l++[x])∧w.grownBy w' v.ownBlock:=by
 obtain⟨a',c',w',h1,h2,h3,_⟩:=Gr underlying34 Tryz.info88 rfl (by omega) w tt B v l.length (Aw l) hown ad 1 c (Aw [x]) (FM [x]) hc Ln (by omega) (by omega) hB;refine⟨a',c',w',h1,?_,h3⟩;unfold AI;rw[List.length_append,Ig];exact h2
theorem Ck{ops:Array Oper}{rest:List Oper}{oo:Oper}{a:Act}{Q:Exit→Act→World→Prop}(w:World)(hgd:oo.guard=none)(s x:Operand)
 (ho:oo.op= .call {callee:= .builtin .append,args:=#[s,x],argTypes:=#[34,34]})
 (B:Nat)(v:Value)(l:List Ab)(hs:a.eval s=v)(hown:AI w B v l)(ad:Option Addr)(c:Nat)(y:Ab)(hx:a.eval x= .slice ad 1 c)(hc:Bj w ad 1 (Aw [y]))(hn:l.length≤1048576)(hB:B≤w.heap.size)
 (h:∀a' c' w',AI w' B (.slice a' (l.length+1) c') (l++[y])→w.grownBy w' v.ownBlock→wpList prog ops Q rest (a.put oo.dst (.slice a' (l.length+1) c')) w'):wpList prog ops Q (oo::rest) a w:=by
 refine wpList_plain hgd fun K hK=>?_;obtain⟨a',c',w',hr,h2,h3⟩:=H9 w oo.type B v l hown ad c y hc hn hB;unfold Oper.wp execOp;simp only[ho,resolve,invoke,builtin,Sem.run_bind,Sem.run_pure,Result.andThen_ok,List.map_toArray,List.map_cons,List.map_nil,hs,hx,hr];exact hK _ _ (h a' c' w' h2 h3)
theorem Fu{ops:Array Oper}{oo:Oper}{a:Act}{w:World}{K:Act→World→Prop}{Q:Exit→Act→World→Prop}{E:Prop}(hgd:oo.guard=none)(s x:Operand)
 (ho:oo.op= .call {callee:= .builtin .append,args:=#[s,x],argTypes:=#[34,34]})
 (B:Nat)(v:Value)(l:List Ab)(hs:a.eval s=v)(hown:AI w B v l)(ad:Option Addr)(c:Nat)(y:Ab)(hx:a.eval x= .slice ad 1 c)(hc:Bj w ad 1 (Aw [y]))(hn:l.length≤1048576)(hB:B≤w.heap.size)
 (h:∀a' c' w',AI w' B (.slice a' (l.length+1) c') (l++[y])→w.grownBy w' v.ownBlock→K (a.put oo.dst (.slice a' (l.length+1) c')) w'):
 if Region.wanted oo (yielded ops a.tmps)=true then Oper.wp prog oo a w K Q else E:=by
 have hw:Region.wanted oo (yielded ops a.tmps)=true:=by simp[Region.wanted,hgd]
 rw[if_pos hw];obtain⟨a',c',w',hr,h2,h3⟩:=H9 w oo.type B v l hown ad c y hc hn hB;unfold Oper.wp execOp;simp only[ho,resolve,invoke,builtin,Sem.run_bind,Sem.run_pure,Result.andThen_ok,List.map_toArray,List.map_cons,List.map_nil,hs,hx,hr];exact h a' c' w' h2 h3
def Al.same(c d:Al):Prop:=d.n=c.n/\d.f=c.f/\d.g=c.g
def Av.same(c d:Av):Prop:=d.n=c.n/\d.h=c.h
def Ac.same(t u:Ac):Prop:=u.id=t.id/\u.b1=t.b1/\t.c1.same u.c1/\u.b2=t.b2/\t.c2.same u.c2/\t.own.same u.own/\u.made=t.made
def Al.row(w:World)(c:Al):Prop:=∃b,c.a=some ⟨b,0,none⟩/\w.rowIs b 145 (c.n*2) (AO c.f c.g)
def Av.row(w:World)(c:Av):Prop:=∃b,c.a=some ⟨b,0,none⟩/\w.rowIs b 2 c.n (fun i=> .int .i64 (c.h i))
def Ac.row(w:World)(t:Ac):Prop:=t.c1.row w/\t.c2.row w/\t.own.row w
theorem Dw{w w':World}{b ty N:Nat}{G:Nat->Value}(h:w.rowIs b ty N G)(hb:Below w w w'):w'.rowIs b ty N G:=h.of_block (hb.block b h.lt)
theorem Du{w:World}{b b' t t' N N':Nat}{G G':Nat->Value}(h:w.rowIs b t N G)(h':w.rowIs b' t' N' G')(ht:t≠t'):b≠b':=fun e=>by
 subst e;obtain⟨c,e1,_⟩:=h;obtain⟨c',e2,_⟩:=h';rw[e1]at e2;simp only[Option.some.injEq,Obj.cells.injEq]at e2;exact ht e2.2.1
theorem Al.row.below{w w':World}{c:Al}(h:c.row w)(hb:Below w w w'):c.row w':=by
 obtain⟨b,e,hr⟩:=h;exact⟨b,e,Dw hr hb⟩
theorem Av.row.below{w w':World}{c:Av}(h:c.row w)(hb:Below w w w'):c.row w':=by
 obtain⟨b,e,hr⟩:=h;exact⟨b,e,Dw hr hb⟩
theorem Ac.row.below{w w':World}{t:Ac}(h:t.row w)(hb:Below w w w'):t.row w':=⟨Al.row.below h.1 hb,Al.row.below h.2.1 hb,Av.row.below h.2.2 hb⟩
theorem Ac.row.put{w:World}{t:Ac}{P ty N:Nat}{G:Nat->Value}(h:t.row w)(hP:w.rowIs P ty N G)(h1:ty≠145)(h2:ty≠2)(i:Nat)(v:Value):t.row (w.setCell ⟨P,i,none⟩ v):=by
 obtain⟨⟨b1,e1,r1⟩,⟨b2,e2,r2⟩,⟨b3,e3,r3⟩⟩:=h;exact⟨⟨b1,e1,r1.setOther (Du r1 hP h1.symm) v⟩,⟨b2,e2,r2.setOther (Du r2 hP h1.symm) v⟩,⟨b3,e3,r3.setOther (Du r3 hP h2.symm) v⟩⟩
theorem Ac.row.at{w:World}{t:Ac}(h:t.row w)(hs:t.small):t.at w:=by
 obtain⟨⟨b1,e1,r1⟩,⟨b2,e2,r2⟩,⟨b3,e3,r3⟩⟩:=h;refine⟨⟨by unfold maxLen;have:=hs.1;omega,?_⟩,⟨by unfold maxLen;have:=hs.2.1;omega,?_⟩,⟨by unfold maxLen;have:=hs.2.2;omega,?_⟩⟩
 ·rw[e1];exact An.row r1
 ·rw[e2];exact An.row r2
 ·rw[e3];exact AJ.row r3
def Ac.since(B:Nat)(t:Ac):Prop:=(∀p,t.c1.a=some p->B<=p.block)/\(∀p,t.c2.a=some p->B<=p.block)/\(∀p,t.own.a=some p->B<=p.block)
theorem Ac.since.low{B B':Nat}{t:Ac}(h:t.since B)(hB:B'<=B):t.since B':=⟨fun p e=>Nat.le_trans hB (h.1 p e),fun p e=>Nat.le_trans hB (h.2.1 p e),fun p e=>Nat.le_trans hB (h.2.2 p e)⟩
theorem Ua(t:Ac)(w:World)(ht:t.at w)(hs:t.small):
 Calls prog 49 #[t.val] w fun e w'=>∃u:Ac,e= .returned u.val/\t.same u/\(u.row w'/\u.since w)/\Below w w w':=by
 refine(QJ t.id t.made t.b1 t.c1.a t.c1.n t.c1.k t.c1.f t.c1.g t.b2 t.c2.a t.c2.n t.c2.k t.c2.f t.c2.g t.own.a t.own.n t.own.k t.own.h w hs.1 hs.2.1 hs.2.2 ht.1.2 ht.2.1.2 ht.2.2.2).mono ?_;rintro e w' ⟨c1,c2,c3,rfl,r1,r2,r3,hb,l1,l2,l3⟩;exact⟨⟨t.id,t.b1,⟨some ⟨c1,0,none⟩,t.c1.n,t.c1.n,t.c1.f,t.c1.g⟩,t.b2,⟨some ⟨c2,0,none⟩,t.c2.n,t.c2.n,t.c2.f,t.c2.g⟩,⟨some ⟨c3,0,none⟩,t.own.n,t.own.n,t.own.h⟩,t.made⟩,rfl,⟨rfl,rfl,⟨rfl,rfl,rfl⟩,rfl,⟨rfl,rfl,rfl⟩,⟨rfl,rfl⟩,rfl⟩,⟨⟨⟨c1,rfl,r1⟩,⟨c2,rfl,r2⟩,⟨c3,rfl,r3⟩⟩,⟨fun p e=>by cases e;exact l1,fun p e=>by cases e;exact l2,fun p e=>by cases e;exact l3⟩⟩,hb⟩
structure G7(G:Nat->Value)(o:Nat)(t:Ac):Prop where
 g0:G o= .int .i64 t.id
 g1:G (o+1)= .int .i64 t.b1
 g2:G (o+2)=t.c1.val
 g3:G (o+3)= .int .i64 t.b2
 g4:G (o+4)=t.c2.val
 g5:G (o+5)=t.own.val
 g6:G (o+6)= .int .i64 t.made
theorem G7.cells{w:World}{b ty N:Nat}{G:Nat->Value}{o:Nat}{t:Ac}(hr:w.rowIs b ty N G)(h:G7 G o t)(ho:o+7<=N):Dz w b o t:=
 ⟨(hr.cell (by omega)).trans (congrArg some h.g0),(hr.cell (by omega)).trans (congrArg some h.g1),(hr.cell (by omega)).trans (congrArg some h.g2),(hr.cell (by omega)).trans (congrArg some h.g3),(hr.cell (by omega)).trans (congrArg some h.g4),(hr.cell (by omega)).trans (congrArg some h.g5),(hr.cell (by omega)).trans (congrArg some h.g6)⟩
theorem ZO{w:World}{b ty N:Nat}{G:Nat->Value}(hr:w.rowIs b ty N G)(o:Nat)(x0 x1 x2 x3 x4 x5 x6:Value):
 ∃G':Nat->Value,(((((((w.setCell ⟨b,o,none⟩ x0).setCell ⟨b,o+1,none⟩ x1).setCell ⟨b,o+2,none⟩ x2).setCell ⟨b,o+3,none⟩ x3).setCell ⟨b,o+4,none⟩ x4).setCell ⟨b,o+5,none⟩ x5).setCell ⟨b,o+6,none⟩ x6).rowIs b ty N G'/\
  (G' o=x0/\G' (o+1)=x1/\G' (o+2)=x2/\G' (o+3)=x3/\G' (o+4)=x4/\G' (o+5)=x5/\G' (o+6)=x6)/\∀i,i<o->G' i=G i:=by
 refine⟨_,((((((hr.set o x0).set (o+1) x1).set (o+2) x2).set (o+3) x3).set (o+4) x4).set (o+5) x5).set (o+6) x6,⟨?_,?_,?_,?_,?_,?_,?_⟩,fun i hi=>?_⟩
 ·simp
 ·simp
 ·simp
 ·simp
 ·simp
 ·simp
 ·simp
 ·rw[if_neg (by omega),if_neg (by omega),if_neg (by omega),if_neg (by omega),if_neg (by omega),if_neg (by omega),if_neg (by omega)]
theorem Ac.row.put7{w:World}{t:Ac}{P ty N:Nat}{G:Nat->Value}(h:t.row w)(hP:w.rowIs P ty N G)(h1:ty≠145)(h2:ty≠2)(o:Nat)(x0 x1 x2 x3 x4 x5 x6:Value):
 t.row (((((((w.setCell ⟨P,o,none⟩ x0).setCell ⟨P,o+1,none⟩ x1).setCell ⟨P,o+2,none⟩ x2).setCell ⟨P,o+3,none⟩ x3).setCell ⟨P,o+4,none⟩ x4).setCell ⟨P,o+5,none⟩ x5).setCell ⟨P,o+6,none⟩ x6):=by
 have r0:=hP.set o x0;have r1:=r0.set (o+1) x1;have r2:=r1.set (o+2) x2;have r3:=r2.set (o+3) x3;have r4:=r3.set (o+4) x4;have r5:=r4.set (o+5) x5;exact Ac.row.put (Ac.row.put (Ac.row.put (Ac.row.put (Ac.row.put (Ac.row.put (Ac.row.put h hP h1 h2 o x0) r0 h1 h2 _ x1) r1 h1 h2 _ x2) r2 h1 h2 _ x3) r3 h1 h2 _ x4) r4 h1 h2 _ x5) r5 h1 h2 _ x6
theorem Qp(n:Nat)(hn:n<=1048576)(w:World):
 ∃c:Array Value,c.size=n*7/\(Instr.makeSlice 33 (.int .i64 (n:Int)) (.int .i64 (n:Int))).run prog w= .ok (.slice (some ⟨w,0,none⟩) n n) (w.alloc (.cells c 86)):=by
 obtain⟨i,hi,hzz⟩:=Option.map_eq_some_iff.1 Tryz.info86;simp only[Prod.mk.injEq]at hzz;obtain⟨hz,hs,hb⟩:=hzz;have hr:=run_make (P:=prog) w 33 86 i _ underlying33 hi hz .i64 .i64 n n (by omega) (Int.le_refl _) (by rw[hb];omega) (by omega);simp only[Int.toNat_natCast,hs]at hr;exact⟨_,size_madeCells _ _,hr⟩
def XV(w:World)(N k:Nat)(T U:Nat->Ac)(wr:World):Prop:=
 ∃G:Nat->Value,wr.rowIs w 86 N G/\∀j,j<k->G7 G (j*7) (U j)/\(T j).same (U j)/\(U j).row wr/\(U j).since w.heap.size
theorem NI(a:Option Addr)(n cap:Nat)(T:Nat->Ac)(w:World)(hn:n<=1048576)(hT:E9 w a n T)(hs:∀i,i<n->(T i).small):
 Calls prog 20 #[.slice a n cap] w fun e w'=>e= .returned (.slice (some ⟨w,0,none⟩) n n)/\(∃U,XV w (n*7) n T U w')/\Below w w w':=by
 obtain⟨c,hc7,hmk⟩:=Qp n hn w;have HT:=hid hT;have HS:=hid hs;have R0:Hid ((w.alloc (.cells c 86)).rowIs w 86 (n*7) (fun i=>c[i]?.getD undef)):=hid (by
  rw[<-hc7];exact World.rowIs_alloc w c 86 _ (fun i hi=>by simp[hi]))
 clear hT hs;go_enter func20,ntmps20
 go_wp2;go_loopw [4] (fun i wr=>∃k:Nat,k<=n/\i= .int .i64 k/\(∃U,XV w (n*7) k T U wr)/\Below w w wr) (fun i _=>n-(intOf i).toNat)
 case atStart=>exact⟨0,Nat.zero_le _,rfl,⟨T,_,R0,fun j hj=>by omega⟩,(Below.refl _ _).alloc (Nat.le_refl _) _⟩
 case round=>
  obtain⟨k,hk,rfl,⟨U,G,hG,hU⟩,hB⟩:=hrel;have UU:=hid hU;have GG:=hid hG;clear hmk R0 hU hG;by_cases hlt:k<n
  ·obtain⟨b,off,rfl,hlt0,hc⟩:=HT.out.below hB (by omega);obtain⟨q,ht⟩:=hc k hlt;obtain⟨q0,q1,q2,q3,q4,q5,q6⟩:=q;have i1:(k:Int)<(n:Int):=(by omega);have SZ:=hid (Ua (T k) wr ht (HS k hlt));unfold Ac.val at SZ;clear hc ht hlt0;go_wp2_with fail
   refine SZ.out.mono ?_;rintro e w2 ⟨u,rfl,us,⟨ua,un⟩,hb2⟩;have UL:=hid (un.low hB.size);clear un;have B2:=Ae hB hb2;have G2:=hid (Dw GG hb2);have U2:=hid (fun j (hj:j<k)=>(⟨(UU j hj).1,(UU j hj).2.1,Ac.row.below (UU j hj).2.2.1 hb2,(UU j hj).2.2.2⟩:G7 G (j*7) (U j)/\(T j).same (U j)/\(U j).row w2/\(U j).since w));have UA:=hid ua;clear q0 q1 q2 q3 q4 q5 q6 SZ UU GG hb2 ua;have z0:=G2.out.cell (i:=k*7) (by omega);have z1:=G2.out.cell (i:=k*7+1) (by omega);have z2:=G2.out.cell (i:=k*7+2) (by omega);have z3:=G2.out.cell (i:=k*7+3) (by omega);have z4:=G2.out.cell (i:=k*7+4) (by omega);have z5:=G2.out.cell (i:=k*7+5) (by omega);have z6:=G2.out.cell (i:=k*7+6) (by omega);have zf:=G2.out.frozen;obtain⟨G',hG',⟨e0,e1,e2,e3,e4,e5,e6⟩,hold⟩:=ZO G2 (k*7) (.int .i64 u.id) (.int .i64 u.b1) u.c1.val (.int .i64 u.b2) u.c2.val u.own.val (.int .i64 u.made);have GN:=hid hG';have RU:Hid (∀t:Ac,t.row w2->t.row _):=hid (fun t h=>Ac.row.put7 h G2 (by decide) (by decide) (k*7) (.int .i64 u.id) (.int .i64 u.b1) u.c1.val (.int .i64 u.b2) u.c2.val u.own.val (.int .i64 u.made));have UN:Hid (∀j,j<k+1->G7 G' (j*7) (if j=k then u else U j)/\(T j).same (if j=k then u else U j)/\(if j=k then u else U j).row w2/\(if j=k then u else U j).since w):=hid (fun j hj=>by
    by_cases e:j=k
    ·subst e;rw[if_pos rfl];exact⟨⟨e0,e1,e2,e3,e4,e5,e6⟩,us,UA,UL⟩
    ·rw[if_neg e];obtain⟨⟨g0,g1,g2,g3,g4,g5,g6⟩,o2,o3⟩:=U2.out j (by omega);exact⟨⟨(hold _ (by omega)).trans g0,(hold _ (by omega)).trans g1,(hold _ (by omega)).trans g2,(hold _ (by omega)).trans g3,(hold _ (by omega)).trans g4,(hold _ (by omega)).trans g5,(hold _ (by omega)).trans g6⟩,o2,o3⟩)
   clear e0 e1 e2 e3 e4 e5 e6 hold hG' us;unfold Al.val Av.val;go_wp2;refine⟨⟨k+1,by omega,by go_num,⟨fun j=>if j=k then u else U j,G',GN,fun j hj=>⟨(UN j hj).1,(UN j hj).2.1,RU _ (UN j hj).2.2.1,(UN j hj).2.2.2⟩⟩,?_⟩,by simp[intOf];omega⟩;exact((((((B2.setCell (Nat.le_refl _) _).setCell (Nat.le_refl _) _).setCell (Nat.le_refl _) _).setCell (Nat.le_refl _) _).setCell (Nat.le_refl _) _).setCell (Nat.le_refl _) _).setCell (Nat.le_refl _) _
  ·go_wp2;go_ret;have e:k=n:=(by omega);subst e;exact⟨rfl,⟨U,G,GG,UU⟩,hB⟩
theorem Tryz.info9:(prog.info? 9).map (fun i=>(i.zero,i.size,i.bytes))=some (some (.string ⟨#[]⟩),1,16):=by kernel_rfl
def Ao.row(w:World)(c:Ao):Prop:=∃b,c.a=some ⟨b,0,none⟩/\w.rowIs b 9 c.n (fun i=> .string (c.f i))
theorem Ou(a:Option Addr)(n cap:Nat)(f:Nat->ByteArray)(w:World)(hn:n<=1048576)(hc:Ej w a n f):
 Calls prog 96 #[.slice a n cap] w fun e w'=>e= .returned (.slice (some ⟨w,0,none⟩) n n)/\w'.rowIs w 9 n (fun i=> .string (f i))/\Below w w w':=by
 have hmk:=run_make_row' (P:=prog) 80 9 _ 16 underlying80 Tryz.info9 rfl .i64 .i64 n (by omega) (by omega);go_enter func96,ntmps96
 go_wp2;go_loopw [4] (fun i wr=>∃k:Nat,k<=n/\i= .int .i64 k/\(∃G,wr.rowIs w 9 n G/\∀j,j<k->G j= .string (f j))/\Below w w wr) (fun i _=>n-(intOf i).toNat)
 case atStart=>exact⟨0,Nat.zero_le _,rfl,⟨_,World.rowIs_made w (.string ⟨#[]⟩) n 9,fun j hj=>by omega⟩,(Below.refl _ _).alloc (Nat.le_refl _) _⟩
 case round=>
  obtain⟨k,hk,rfl,⟨G,hrow,hG⟩,hB⟩:=hrel;clear hmk;have HG:=hid hG;clear hG;by_cases hlt':k<n
  ·obtain⟨b,off,rfl,hlt,hc⟩:=hc (by omega);have g1:wr.cell? ⟨b,off+k,none⟩=some (.string (f k)):=(hB.cell (p:=⟨b,_,none⟩) hlt).trans (hc k hlt');have c1:=hrow.cell (i:=k) (by omega);have f1:=hrow.frozen k;clear hc;go_wp2;refine⟨⟨k+1,by omega,by go_num,⟨_,hrow.set k (.string (f k)),fun j hj=>?_⟩,hB.setCell (Nat.le_refl _) _⟩,by simp[intOf];omega⟩;by_cases e:j=k
   ·subst e;simp
   ·rw[if_neg e];exact HG.out j (by omega)
  ·clear hc;go_wp2;go_ret;have e:k=n:=(by omega);subst e;exact⟨rfl,hrow.congr (fun j hj=>HG j hj),hB⟩
theorem Ah.jB{W:World}{P t i:Nat}{cs:Array Value}(h:Ah W P (.cells cs t))(v:Value):Ah (W.setCell ⟨P,i,none⟩ v) P (.cells (cs.setIfInBounds i v) t):=by
 unfold Ah at *;simp[World.setCell,Array.getElem?_modify,h]
theorem Ah.jC{W:World}{P t:Nat}{cs:Array Value}(h:Ah W P (.cells cs t))(i:Nat):W.frozen? ⟨P,i,none⟩=false:=by
 unfold Ah at h;simp[World.frozen?,h]
theorem Ah.other{W:World}{P Q i:Nat}{o:Obj}(h:Ah W P o)(hne:Q≠P)(v:Value):Ah (W.setCell ⟨Q,i,none⟩ v) P o:=by
 unfold Ah at *;simp[World.setCell,Array.getElem?_modify,h,hne]
theorem Ah.all10{W:World}{P t:Nat}{z0 z1 z2 z3 z4 z5 z6 z7 z8 z9:Value}(h:Ah W P (.cells #[z0,z1,z2,z3,z4,z5,z6,z7,z8,z9] t))(x0 x1 x2 x3 x4 x5 x6 x7 x8 x9:Value):
 Ah ((((((((((W.setCell ⟨P,0,none⟩ x0).setCell ⟨P,1,none⟩ x1).setCell ⟨P,2,none⟩ x2).setCell ⟨P,3,none⟩ x3).setCell ⟨P,4,none⟩ x4).setCell ⟨P,5,none⟩ x5).setCell ⟨P,6,none⟩ x6).setCell ⟨P,7,none⟩ x7).setCell ⟨P,8,none⟩ x8).setCell ⟨P,9,none⟩ x9) P (.cells #[x0,x1,x2,x3,x4,x5,x6,x7,x8,x9] t):=by
 have h0:Ah _ P (.cells #[x0,z1,z2,z3,z4,z5,z6,z7,z8,z9] t):=h.jB (i:=0) x0;have h1:Ah _ P (.cells #[x0,x1,z2,z3,z4,z5,z6,z7,z8,z9] t):=h0.jB (i:=1) x1;have h2:Ah _ P (.cells #[x0,x1,x2,z3,z4,z5,z6,z7,z8,z9] t):=h1.jB (i:=2) x2;have h3:Ah _ P (.cells #[x0,x1,x2,x3,z4,z5,z6,z7,z8,z9] t):=h2.jB (i:=3) x3;have h4:Ah _ P (.cells #[x0,x1,x2,x3,x4,z5,z6,z7,z8,z9] t):=h3.jB (i:=4) x4;have h5:Ah _ P (.cells #[x0,x1,x2,x3,x4,x5,z6,z7,z8,z9] t):=h4.jB (i:=5) x5;have h6:Ah _ P (.cells #[x0,x1,x2,x3,x4,x5,x6,z7,z8,z9] t):=h5.jB (i:=6) x6;have h7:Ah _ P (.cells #[x0,x1,x2,x3,x4,x5,x6,x7,z8,z9] t):=h6.jB (i:=7) x7;have h8:Ah _ P (.cells #[x0,x1,x2,x3,x4,x5,x6,x7,x8,z9] t):=h7.jB (i:=8) x8;exact h8.jB (i:=9) x9
theorem Vo(tmps:Array Value)(W:World)(P:Nat)(x0 x1 x2 x3 x4 x5 x6 x7 x8 x9:Value)(h:Ah W P (.cells #[x0,x1,x2,x3,x4,x5,x6,x7,x8,x9] 88))(h2:tmps[2]? =some (.pointer (some ⟨P,0,none⟩))):
 (results Tryz.f50 tmps).run prog W= .ok (.agg #[x0,x1,x2,x3,x4,x5,x6,x7,x8,x9]) W:=by
 obtain⟨z0,z1,z2,z3,z4,z5,z6,z7,z8,z9⟩:=h.jE;simp[results,Tryz.results50,go_sem,h2,z0,z1,z2,z3,z4,z5,z6,z7,z8,z9]
theorem Qx(t:Ab)(w:World)(ht:t.at w)(hs:t.small):
 Calls prog 50 #[.agg #[t.id,t.kind,t.up,t.b1,.slice t.c1.a t.c1.n t.c1.k,.string t.data,.slice t.jA.a t.jA.n t.jA.k,.slice t.own.a t.own.n t.own.k,t.b2,.slice t.c2.a t.c2.n t.c2.k]] w fun e w'=>∃d1 d2 d3 d4,e= .returned (.agg #[t.id,t.kind,t.up,t.b1,.slice (some ⟨d1,0,none⟩) t.c1.n t.c1.n,.string t.data,.slice (some ⟨d2,0,none⟩) t.jA.n t.jA.n,.slice (some ⟨d3,0,none⟩) t.own.n t.own.n,t.b2,.slice (some ⟨d4,0,none⟩) t.c2.n t.c2.n])/\w'.rowIs d1 145 (t.c1.n*2) (AO t.c1.f t.c1.g)/\w'.rowIs d2 9 t.jA.n (fun i=> .string (t.jA.f i))/\w'.rowIs d3 2 t.own.n (fun i=> .int .i64 (t.own.h i))/\w'.rowIs d4 145 (t.c2.n*2) (AO t.c2.f t.c2.g)/\Below w w w'/\w.heap.size<=d1/\w.heap.size<=d2/\w.heap.size<=d3/\w.heap.size<=d4:=by
 have HT:=hid ht;obtain⟨m1,m2,m3,m4,m5⟩:=hs;have m3':=m3.1;clear ht;have n4:No (.cells #[t.id,t.kind,t.up,t.b1,.slice t.c1.a t.c1.n t.c1.k,.string t.data,.slice t.jA.a t.jA.n t.jA.k,.slice t.own.a t.own.n t.own.k,t.b2,.slice t.c2.a t.c2.n t.c2.k] 82):=⟨⟩;have n5:No (.cells #[t.id,t.kind,t.up,.int .i64 0,.slice none 0 0,.string ⟨#[]⟩,.slice none 0 0,.slice none 0 0,.int .i64 0,.slice none 0 0] 88):=⟨⟩;have n6:No (.cells #[.int .i64 0,.int .i64 0,.int .i64 0,.int .i64 0,.slice none 0 0,.string ⟨#[]⟩,.slice none 0 0,.slice none 0 0,.int .i64 0,.slice none 0 0] 88):=⟨⟩;have n3:Nw (((w.alloc n4).alloc n6).alloc n5):=⟨⟩;have S0a:Hid (Ah n3 w n4):=hid (((Ah.new w _).alloc _).alloc _);have R0a:Hid (Ah n3 (w.heap.size+1) n6):=by
  have:=(Ah.new (w.alloc n4) n6).alloc n5;refine hid ?_;simpa using this
 have Q0a:Hid (Ah n3 (w.heap.size+1+1) n5):=by
  have:=Ah.new ((w.alloc n4).alloc n6) n5;refine hid ?_;simpa using this
 have B0a:Hid (Below w w n3):=hid ((((Below.refl _ w).alloc (Nat.le_refl _) _).alloc (by simp) _).alloc (by simp;omega) _);go_enter func50,ntmps50
 go_wp2_with fail
 generalize (n3:World)=V0 at *;have l0:=Q0a.out.lt;refine(Ez _ _ _ _ t.c1.f t.c1.g _ m1 (HT.out.1.2.below B0a)).mono ?_;rintro e w1 ⟨d1,rfl,g1,r1,hb1⟩;have Q1:=hid (Q0a.out.below hb1);have S1:=hid (S0a.out.below hb1);have R1:=hid (R0a.out.below hb1);have B1:=hid (Ae B0a hb1);have Nd11:=hid r1;have y1:=hb1.size;clear Q0a S0a R0a B0a r1 hb1;have n10:Nv (.slice (some ⟨d1,0,none⟩) t.c1.n t.c1.n):=⟨⟩;have Q1a:Hid (Ah (((w1.setCell ⟨w.heap.size+1+1,3,none⟩ (.int .i64 t.b1)).setCell ⟨w.heap.size+1+1,4,none⟩ n10).setCell ⟨w.heap.size+1+1,5,none⟩ (.string t.data)) (w.heap.size+1+1) (.cells #[t.id,t.kind,t.up,t.b1,.slice (some ⟨d1,0,none⟩) t.c1.n t.c1.n,.string t.data,.slice none 0 0,.slice none 0 0,.int .i64 0,.slice none 0 0] 88)):=hid ((((Q1.out.jB _).jB _).jB _));have S1a:=hid ((((S1.out.other (Q:=w.heap.size+1+1) (i:=3) (by omega) (.int .i64 t.b1)).other (Q:=w.heap.size+1+1) (i:=4) (by omega) n10).other (Q:=w.heap.size+1+1) (i:=5) (by omega) (.string t.data)));have R1a:=hid ((((R1.out.other (Q:=w.heap.size+1+1) (i:=3) (by omega) (.int .i64 t.b1)).other (Q:=w.heap.size+1+1) (i:=4) (by omega) n10).other (Q:=w.heap.size+1+1) (i:=5) (by omega) (.string t.data)));have B1a:=hid ((((B1.out.setCell (p:=⟨w.heap.size+1+1,3,none⟩) (show w.heap.size<=w.heap.size+1+1 by omega) (.int .i64 t.b1)).setCell (p:=⟨w.heap.size+1+1,4,none⟩) (show w.heap.size<=w.heap.size+1+1 by omega) n10).setCell (p:=⟨w.heap.size+1+1,5,none⟩) (show w.heap.size<=w.heap.size+1+1 by omega) (.string t.data)));have Nd11a:=hid ((((Nd11.out.setOther (a:=⟨w.heap.size+1+1,3,none⟩) (show d1≠w.heap.size+1+1 by omega) (.int .i64 t.b1)).setOther (a:=⟨w.heap.size+1+1,4,none⟩) (show d1≠w.heap.size+1+1 by omega) n10).setOther (a:=⟨w.heap.size+1+1,5,none⟩) (show d1≠w.heap.size+1+1 by omega) (.string t.data)));obtain⟨q0,q1,q2,q3,q4,q5,q6,q7,q8,q9⟩:=Q1.out.jE;obtain⟨s0,s1,s2,s3,s4,s5,s6,s7,s8,s9⟩:=S1.out.jE;have qf:=Q1.out.jC;go_wp2_with fail
 generalize (((w1.setCell ⟨w.heap.size+1+1,3,none⟩ (.int .i64 t.b1)).setCell ⟨w.heap.size+1+1,4,none⟩ n10).setCell ⟨w.heap.size+1+1,5,none⟩ (.string t.data))=V1 at *;clear q0 q1 q2 q3 q4 q5 q6 q7 q8 q9 s0 s1 s2 s3 s4 s5 s6 s7 s8 s9 qf;have l1:=Q1a.out.lt;refine(Ou _ _ _ t.jA.f _ m3' (HT.out.2.1.2.1.below B1a)).mono ?_;rintro e w2 ⟨rfl,r2,hb2⟩;have Q2:=hid (Q1a.out.below hb2);have S2:=hid (S1a.out.below hb2);have R2:=hid (R1a.out.below hb2);have B2:=hid (Ae B1a hb2);have Nd12:=hid (Dw Nd11a hb2);have Nd22:=hid r2;have y2:=hb2.size;clear Q1 S1 R1 B1 Q1a S1a R1a B1a Nd11 Nd11a r2 hb2;generalize V1.heap.size=d2 at *;have n9:Nv (.slice (some ⟨d2,0,none⟩) t.jA.n t.jA.n):=⟨⟩;have Q2a:Hid (Ah (w2.setCell ⟨w.heap.size+1+1,6,none⟩ n9) (w.heap.size+1+1) (.cells #[t.id,t.kind,t.up,t.b1,.slice (some ⟨d1,0,none⟩) t.c1.n t.c1.n,.string t.data,.slice (some ⟨d2,0,none⟩) t.jA.n t.jA.n,.slice none 0 0,.int .i64 0,.slice none 0 0] 88)):=hid ((Q2.out.jB _));have S2a:=hid ((S2.out.other (Q:=w.heap.size+1+1) (i:=6) (by omega) n9));have R2a:=hid ((R2.out.other (Q:=w.heap.size+1+1) (i:=6) (by omega) n9));have B2a:=hid ((B2.out.setCell (p:=⟨w.heap.size+1+1,6,none⟩) (show w.heap.size<=w.heap.size+1+1 by omega) n9));have Nd12a:=hid ((Nd12.out.setOther (a:=⟨w.heap.size+1+1,6,none⟩) (show d1≠w.heap.size+1+1 by omega) n9));have Nd22a:=hid ((Nd22.out.setOther (a:=⟨w.heap.size+1+1,6,none⟩) (show d2≠w.heap.size+1+1 by omega) n9));obtain⟨q0,q1,q2,q3,q4,q5,q6,q7,q8,q9⟩:=Q2.out.jE;obtain⟨s0,s1,s2,s3,s4,s5,s6,s7,s8,s9⟩:=S2.out.jE;have qf:=Q2.out.jC;go_wp2_with fail
 generalize (w2.setCell ⟨w.heap.size+1+1,6,none⟩ n9)=V2 at *;clear q0 q1 q2 q3 q4 q5 q6 q7 q8 q9 s0 s1 s2 s3 s4 s5 s6 s7 s8 s9 qf;have l2:=Q2a.out.lt;refine(Jw _ _ _ t.own.h _ m4 (HT.out.2.2.1.2.below B2a)).mono ?_;rintro e w3 ⟨rfl,r3,hb3⟩;have Q3:=hid (Q2a.out.below hb3);have S3:=hid (S2a.out.below hb3);have R3:=hid (R2a.out.below hb3);have B3:=hid (Ae B2a hb3);have Nd13:=hid (Dw Nd12a hb3);have Nd23:=hid (Dw Nd22a hb3);have Nd33:=hid r3;have y3:=hb3.size;clear Q2 S2 R2 B2 Q2a S2a R2a B2a Nd12 Nd12a Nd22 Nd22a r3 hb3;generalize V2.heap.size=d3 at *;have n7:Nv (.slice (some ⟨d3,0,none⟩) t.own.n t.own.n):=⟨⟩;have Q3a:Hid (Ah (w3.setCell ⟨w.heap.size+1+1,7,none⟩ n7) (w.heap.size+1+1) (.cells #[t.id,t.kind,t.up,t.b1,.slice (some ⟨d1,0,none⟩) t.c1.n t.c1.n,.string t.data,.slice (some ⟨d2,0,none⟩) t.jA.n t.jA.n,.slice (some ⟨d3,0,none⟩) t.own.n t.own.n,.int .i64 0,.slice none 0 0] 88)):=hid ((Q3.out.jB _));have S3a:=hid ((S3.out.other (Q:=w.heap.size+1+1) (i:=7) (by omega) n7));have R3a:=hid ((R3.out.other (Q:=w.heap.size+1+1) (i:=7) (by omega) n7));have B3a:=hid ((B3.out.setCell (p:=⟨w.heap.size+1+1,7,none⟩) (show w.heap.size<=w.heap.size+1+1 by omega) n7));have Nd13a:=hid ((Nd13.out.setOther (a:=⟨w.heap.size+1+1,7,none⟩) (show d1≠w.heap.size+1+1 by omega) n7));have Nd23a:=hid ((Nd23.out.setOther (a:=⟨w.heap.size+1+1,7,none⟩) (show d2≠w.heap.size+1+1 by omega) n7));have Nd33a:=hid ((Nd33.out.setOther (a:=⟨w.heap.size+1+1,7,none⟩) (show d3≠w.heap.size+1+1 by omega) n7));obtain⟨q0,q1,q2,q3,q4,q5,q6,q7,q8,q9⟩:=Q3.out.jE;obtain⟨s0,s1,s2,s3,s4,s5,s6,s7,s8,s9⟩:=S3.out.jE;have qf:=Q3.out.jC;go_wp2_with fail
 generalize (w3.setCell ⟨w.heap.size+1+1,7,none⟩ n7)=V3 at *;clear q0 q1 q2 q3 q4 q5 q6 q7 q8 q9 s0 s1 s2 s3 s4 s5 s6 s7 s8 s9 qf;have l3:=Q3a.out.lt;refine(Ez _ _ _ _ t.c2.f t.c2.g _ m5 (HT.out.2.2.2.1.2.below B3a)).mono ?_;rintro e w4 ⟨d4,rfl,g4,r4,hb4⟩;have Q4:=hid (Q3a.out.below hb4);have S4:=hid (S3a.out.below hb4);have R4:=hid (R3a.out.below hb4);have B4:=hid (Ae B3a hb4);have Nd14:=hid (Dw Nd13a hb4);have Nd24:=hid (Dw Nd23a hb4);have Nd34:=hid (Dw Nd33a hb4);have Nd44:=hid r4;clear Q3 S3 R3 B3 Q3a S3a R3a B3a Nd13 Nd13a Nd23 Nd23a Nd33 Nd33a r4 hb4;have n8:Nv (.slice (some ⟨d4,0,none⟩) t.c2.n t.c2.n):=⟨⟩;have Q4a:Hid (Ah ((w4.setCell ⟨w.heap.size+1+1,8,none⟩ (.int .i64 t.b2)).setCell ⟨w.heap.size+1+1,9,none⟩ n8) (w.heap.size+1+1) (.cells #[t.id,t.kind,t.up,t.b1,.slice (some ⟨d1,0,none⟩) t.c1.n t.c1.n,.string t.data,.slice (some ⟨d2,0,none⟩) t.jA.n t.jA.n,.slice (some ⟨d3,0,none⟩) t.own.n t.own.n,t.b2,.slice (some ⟨d4,0,none⟩) t.c2.n t.c2.n] 88)):=hid (((Q4.out.jB _).jB _));have S4a:=hid (((S4.out.other (Q:=w.heap.size+1+1) (i:=8) (by omega) (.int .i64 t.b2)).other (Q:=w.heap.size+1+1) (i:=9) (by omega) n8));have R4a:=hid (((R4.out.other (Q:=w.heap.size+1+1) (i:=8) (by omega) (.int .i64 t.b2)).other (Q:=w.heap.size+1+1) (i:=9) (by omega) n8));have B4a:=hid (((B4.out.setCell (p:=⟨w.heap.size+1+1,8,none⟩) (show w.heap.size<=w.heap.size+1+1 by omega) (.int .i64 t.b2)).setCell (p:=⟨w.heap.size+1+1,9,none⟩) (show w.heap.size<=w.heap.size+1+1 by omega) n8));have Nd14a:=hid (((Nd14.out.setOther (a:=⟨w.heap.size+1+1,8,none⟩) (show d1≠w.heap.size+1+1 by omega) (.int .i64 t.b2)).setOther (a:=⟨w.heap.size+1+1,9,none⟩) (show d1≠w.heap.size+1+1 by omega) n8));have Nd24a:=hid (((Nd24.out.setOther (a:=⟨w.heap.size+1+1,8,none⟩) (show d2≠w.heap.size+1+1 by omega) (.int .i64 t.b2)).setOther (a:=⟨w.heap.size+1+1,9,none⟩) (show d2≠w.heap.size+1+1 by omega) n8));have Nd34a:=hid (((Nd34.out.setOther (a:=⟨w.heap.size+1+1,8,none⟩) (show d3≠w.heap.size+1+1 by omega) (.int .i64 t.b2)).setOther (a:=⟨w.heap.size+1+1,9,none⟩) (show d3≠w.heap.size+1+1 by omega) n8));have Nd44a:=hid (((Nd44.out.setOther (a:=⟨w.heap.size+1+1,8,none⟩) (show d4≠w.heap.size+1+1 by omega) (.int .i64 t.b2)).setOther (a:=⟨w.heap.size+1+1,9,none⟩) (show d4≠w.heap.size+1+1 by omega) n8));obtain⟨q0,q1,q2,q3,q4,q5,q6,q7,q8,q9⟩:=Q4.out.jE;obtain⟨s0,s1,s2,s3,s4,s5,s6,s7,s8,s9⟩:=S4.out.jE;have qf:=Q4.out.jC;obtain⟨t0,t1,t2,t3,t4,t5,t6,t7,t8,t9⟩:=R4.out.jE;have tf:=R4.out.jC;have n1:¬w.heap.size+1=w.heap.size+1+1:=by omega
 have n2:¬w.heap.size+1+1=w.heap.size+1:=by omega
 go_wp2;refine bodyPost_ret (Vo _ _ (w.heap.size+1) (.int .i64 t.id) (.int .i64 t.kind) (.int .i64 t.up) (.int .i64 t.b1) n10 (.string t.data) n9 n7 (.int .i64 t.b2) n8 (R4a.out.all10 _ _ _ _ _ _ _ _ _ _) rfl) rfl ⟨d1,d2,d3,d4,rfl,?_,?_,?_,?_,?_,by omega,by omega,by omega,by omega⟩
 ·exact((((((((((Nd14a.out.setOther (a:=⟨w.heap.size+1,0,none⟩) (show d1≠w.heap.size+1 by omega) _).setOther (a:=⟨w.heap.size+1,1,none⟩) (show d1≠w.heap.size+1 by omega) _).setOther (a:=⟨w.heap.size+1,2,none⟩) (show d1≠w.heap.size+1 by omega) _).setOther (a:=⟨w.heap.size+1,3,none⟩) (show d1≠w.heap.size+1 by omega) _).setOther (a:=⟨w.heap.size+1,4,none⟩) (show d1≠w.heap.size+1 by omega) _).setOther (a:=⟨w.heap.size+1,5,none⟩) (show d1≠w.heap.size+1 by omega) _).setOther (a:=⟨w.heap.size+1,6,none⟩) (show d1≠w.heap.size+1 by omega) _).setOther (a:=⟨w.heap.size+1,7,none⟩) (show d1≠w.heap.size+1 by omega) _).setOther (a:=⟨w.heap.size+1,8,none⟩) (show d1≠w.heap.size+1 by omega) _).setOther (a:=⟨w.heap.size+1,9,none⟩) (show d1≠w.heap.size+1 by omega) _)
 ·exact((((((((((Nd24a.out.setOther (a:=⟨w.heap.size+1,0,none⟩) (show d2≠w.heap.size+1 by omega) _).setOther (a:=⟨w.heap.size+1,1,none⟩) (show d2≠w.heap.size+1 by omega) _).setOther (a:=⟨w.heap.size+1,2,none⟩) (show d2≠w.heap.size+1 by omega) _).setOther (a:=⟨w.heap.size+1,3,none⟩) (show d2≠w.heap.size+1 by omega) _).setOther (a:=⟨w.heap.size+1,4,none⟩) (show d2≠w.heap.size+1 by omega) _).setOther (a:=⟨w.heap.size+1,5,none⟩) (show d2≠w.heap.size+1 by omega) _).setOther (a:=⟨w.heap.size+1,6,none⟩) (show d2≠w.heap.size+1 by omega) _).setOther (a:=⟨w.heap.size+1,7,none⟩) (show d2≠w.heap.size+1 by omega) _).setOther (a:=⟨w.heap.size+1,8,none⟩) (show d2≠w.heap.size+1 by omega) _).setOther (a:=⟨w.heap.size+1,9,none⟩) (show d2≠w.heap.size+1 by omega) _)
 ·exact((((((((((Nd34a.out.setOther (a:=⟨w.heap.size+1,0,none⟩) (show d3≠w.heap.size+1 by omega) _).setOther (a:=⟨w.heap.size+1,1,none⟩) (show d3≠w.heap.size+1 by omega) _).setOther (a:=⟨w.heap.size+1,2,none⟩) (show d3≠w.heap.size+1 by omega) _).setOther (a:=⟨w.heap.size+1,3,none⟩) (show d3≠w.heap.size+1 by omega) _).setOther (a:=⟨w.heap.size+1,4,none⟩) (show d3≠w.heap.size+1 by omega) _).setOther (a:=⟨w.heap.size+1,5,none⟩) (show d3≠w.heap.size+1 by omega) _).setOther (a:=⟨w.heap.size+1,6,none⟩) (show d3≠w.heap.size+1 by omega) _).setOther (a:=⟨w.heap.size+1,7,none⟩) (show d3≠w.heap.size+1 by omega) _).setOther (a:=⟨w.heap.size+1,8,none⟩) (show d3≠w.heap.size+1 by omega) _).setOther (a:=⟨w.heap.size+1,9,none⟩) (show d3≠w.heap.size+1 by omega) _)
 ·exact((((((((((Nd44a.out.setOther (a:=⟨w.heap.size+1,0,none⟩) (show d4≠w.heap.size+1 by omega) _).setOther (a:=⟨w.heap.size+1,1,none⟩) (show d4≠w.heap.size+1 by omega) _).setOther (a:=⟨w.heap.size+1,2,none⟩) (show d4≠w.heap.size+1 by omega) _).setOther (a:=⟨w.heap.size+1,3,none⟩) (show d4≠w.heap.size+1 by omega) _).setOther (a:=⟨w.heap.size+1,4,none⟩) (show d4≠w.heap.size+1 by omega) _).setOther (a:=⟨w.heap.size+1,5,none⟩) (show d4≠w.heap.size+1 by omega) _).setOther (a:=⟨w.heap.size+1,6,none⟩) (show d4≠w.heap.size+1 by omega) _).setOther (a:=⟨w.heap.size+1,7,none⟩) (show d4≠w.heap.size+1 by omega) _).setOther (a:=⟨w.heap.size+1,8,none⟩) (show d4≠w.heap.size+1 by omega) _).setOther (a:=⟨w.heap.size+1,9,none⟩) (show d4≠w.heap.size+1 by omega) _)
 ·exact((((((((((B4a.out.setCell (show w.heap.size<=w.heap.size+1 by omega) _).setCell (show w.heap.size<=w.heap.size+1 by omega) _).setCell (show w.heap.size<=w.heap.size+1 by omega) _).setCell (show w.heap.size<=w.heap.size+1 by omega) _).setCell (show w.heap.size<=w.heap.size+1 by omega) _).setCell (show w.heap.size<=w.heap.size+1 by omega) _).setCell (show w.heap.size<=w.heap.size+1 by omega) _).setCell (show w.heap.size<=w.heap.size+1 by omega) _).setCell (show w.heap.size<=w.heap.size+1 by omega) _).setCell (show w.heap.size<=w.heap.size+1 by omega) _)
end Go.Proofs.YtmikapeeflcbfaaGreatDoor
