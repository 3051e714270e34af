import Derived.Laws.IdiomStrings
import Derived.Deep.RegionLaw
import Derived.Test.YtblapfnglojgjaaGreatDoorZ3k
set_option maxRecDepth 100000
set_option maxHeartbeats 4000000
namespace Go.Proofs.YtblapfnglojgjaaGreatDoor
open Go Go.RowKit Go.Deep Go.Maps Go.Proofs.Tryz
variable {l:List Af}{w w':World}{B B' c:Nat}{v:Value}{row:Option Nat}{a:Option Addr}
def Af.cs(v:Af):List Value:=[.int .i64 v.id,.int .i64 v.b1,v.c1.val,.int .i64 v.b2,v.c2.val,v.own.val,.int .i64 v.made]
def Ci(l:List Af):List Value:=(l.map Af.cs).flatten
theorem Va(l:List Af):(Ci l).length=l.length*7:=by
 induction l with
 |nil=>rfl
 |cons x r ih=>simp[Ci,Af.cs]at *;omega
theorem Qe(l r:List Af):Ci (l++r)=Ci l++Ci r:=by simp[Ci]
theorem VB:∀u∈Ci l,u.oneCell'=true:=fun u hu=>by
 simp only[Ci,List.mem_flatten,List.mem_map]at hu;obtain⟨_,⟨x,_,rfl⟩,h⟩:=hu;simp only[Af.cs,List.mem_cons,List.not_mem_nil,or_false]at h;rcases h with rfl|rfl|rfl|rfl|rfl|rfl|rfl<;>rfl
theorem Vq:∀{i:Nat} (hi:i<l.length),(Ci l)[i*7]? =some (.int .i64 (l[i]).id)/\(Ci l)[i*7+1]? =some (.int .i64 (l[i]).b1)/\(Ci l)[i*7+2]? =some ((l[i]).c1.val)/\(Ci l)[i*7+3]? =some (.int .i64 (l[i]).b2)/\(Ci l)[i*7+4]? =some ((l[i]).c2.val)/\(Ci l)[i*7+5]? =some ((l[i]).own.val)/\(Ci l)[i*7+6]? =some (.int .i64 (l[i]).made):=by
 induction l with
 |nil=>intro i hi;simp at hi
 |cons x r ih=>
  intro i hi;have e:Ci (x::r)=Value.int .i64 x.id::Value.int .i64 x.b1::x.c1.val::Value.int .i64 x.b2::x.c2.val::x.own.val::Value.int .i64 x.made::Ci r:=by simp[Ci,Af.cs]
  rw[e];cases i with
  |zero=>simp
  |succ i=>
   have h:=ih (i:=i) (by simpa using hi);have e1:(i+1)*7=i*7+1+1+1+1+1+1+1:=(by omega);rw[e1];simpa using h
def CV(w:World)(B:Nat)(v:Value)(l:List Af):Prop:=w.ownsRow B 47 7 v l.length (Ci l)
def Af.z:Af:=⟨0,0,⟨none,0,0,fun _=>0,fun _=>0⟩,0,⟨none,0,0,fun _=>0,fun _=>0⟩,⟨none,0,0,fun _=>0⟩,0⟩
def Bm(l:List Af)(i:Nat):Af:=l.getD i Af.z
theorem CV.nil(w:World)(B:Nat):CV w B (.slice none 0 0) []:=World.ownsRow_nil _ _ _ _
theorem CV.made(w:World)(B:Nat)(hb:B<=w.heap.size):CV (w.alloc (.cells #[] 47)) B (.slice (w.heap.size) 0 0) []:=World.ownsRow_made w #[] 0 hb (Nat.zero_le _) rfl
theorem CV.shape(h:CV w B v l):∃a c,v= .slice a l.length c:=Cp h
theorem CV.grown(h:CV w B v l)(hg:w.grownBy w' row)(hne:v.ownBlock=none∨v.ownBlock≠row):CV w' B v l:=World.ownsRow.kept h hg hne
theorem CV.below(h:CV w B v l)(hb:Below w.heap.size w w'):CV w' B v l:=World.ownsRow.kept (row:=none) h ⟨hb.os,hb.tape,hb.output,hb.size,fun k hk _=>hb.block k hk⟩ (by cases v.ownBlock<;>simp)
theorem CV.base(h:CV w B v l)(hB:B'<=B):CV w B' v l:=by
 refine⟨h.1,?_⟩;rcases h.2 with hn|⟨g,cap,cur,hv,hbg,rest⟩
 ·exact .inl hn
 ·exact .inr ⟨g,cap,cur,hv,Nat.le_trans hB hbg,rest⟩
theorem CV.lies(h:CV w B (.slice a l.length c) l)(hat:∀x∈l,x.at w):JR w a l.length (Bm l):=fun hn=>by
 obtain⟨b,off,e,hlt,hc⟩:=Bh.own h hn;refine⟨b,off,e,hlt,fun i hi=>?_⟩;have g:=Vq hi;have e1:Bm l i=l[i]:=by simp[Bm,hi]
 rw[e1];exact⟨⟨by have:=hc _ _ (g.1);exact this,by have:=hc _ _ (g.2.1);rw[<-Nat.add_assoc]at this;exact this,by have:=hc _ _ (g.2.2.1);rw[<-Nat.add_assoc]at this;exact this,by have:=hc _ _ (g.2.2.2.1);rw[<-Nat.add_assoc]at this;exact this,by have:=hc _ _ (g.2.2.2.2.1);rw[<-Nat.add_assoc]at this;exact this,by have:=hc _ _ (g.2.2.2.2.2.1);rw[<-Nat.add_assoc]at this;exact this,by have:=hc _ _ (g.2.2.2.2.2.2);rw[<-Nat.add_assoc]at this;exact this⟩,hat _ (List.getElem_mem hi)⟩
theorem CV.one(w:World)(x:Af):Bh (w.alloc (.cells #[.int .i64 x.id,.int .i64 x.b1,x.c1.val,.int .i64 x.b2,x.c2.val,x.own.val,.int .i64 x.made] 47)) (some ⟨w.heap.size,0,none⟩) 1 (Ci [x]):=fun _=>by
 refine⟨w.heap.size,0,rfl,by simp,fun j u hu=>?_⟩;have h:=Ai.new w (.cells #[.int .i64 x.id,.int .i64 x.b1,x.c1.val,.int .i64 x.b2,x.c2.val,x.own.val,.int .i64 x.made] 47);have e:Ci [x]=[.int .i64 x.id,.int .i64 x.b1,x.c1.val,.int .i64 x.b2,x.c2.val,x.own.val,.int .i64 x.made]:=by simp[Ci,Af.cs]
 rw[e]at hu;rw[Nat.zero_add];refine h.c0 j ?_;rw[<-hu];simp only[List.getElem?_toArray]
theorem J9(w:World)(tt:TypeId)(B:Nat)(v:Value)(l:List Af)(hown:CV w B v l)(ad:Option Addr)(c:Nat)(x:Af)(hc:Bh w ad 1 (Ci [x]))(hn:l.length<=1048576)(hB:B<=w.heap.size):
 ∃a' c' w',(Builtin.append_ #[24,24] tt #[v,.slice ad 1 c]).run prog w= .ok (.slice a' (l.length+1) c') w'/\CV w' B (.slice a' (l.length+1) c') (l++[x])/\w.grownBy w' v.ownBlock:=by
 obtain⟨a',c',w',h1,h2,h3,_⟩:=FK underlying24 Tryz.info47 rfl (by omega) w tt B v l.length (Ci l) hown ad 1 c (Ci [x]) (Va [x]) hc VB (by omega) (by omega) hB;refine⟨a',c',w',h1,?_,h3⟩;unfold CV;rw[List.length_append,Qe];exact h2
theorem Iu{ops:Array Oper}{rest:List Oper}{oo:Oper}{a:Act}{Q:Exit->Act->World->Prop}(w:World)(hgd:oo.guard=none)(s x:Operand)
 (ho:oo.op= .call {callee:= .builtin .append,args:=#[s,x],argTypes:=#[24,24]})
 (B:Nat)(v:Value)(l:List Af)(hs:a.eval s=v)(hown:CV w B v l)(ad:Option Addr)(c:Nat)(y:Af)(hx:a.eval x= .slice ad 1 c)(hc:Bh w ad 1 (Ci [y]))(hn:l.length<=1048576)(hB:B<=w.heap.size)
 (h:∀a' c' w',CV w' B (.slice a' (l.length+1) c') (l++[y])->w.grownBy w' v.ownBlock->wpList prog ops Q rest (a.put oo.dst (.slice a' (l.length+1) c')) w'):wpList prog ops Q (oo::rest) a w:=by
 refine wpList_plain hgd fun K hK=>?_;obtain⟨a',c',w',hr,h2,h3⟩:=J9 w oo.type B v l hown ad c y hc hn hB;unfold Oper.wp execOp;simp only[ho,resolve,invoke,builtin,Sem.run_bind,Sem.run_pure,Result.andThen_ok,List.map_toArray,List.map_cons,List.map_nil,hs,hx,hr];exact hK _ _ (h a' c' w' h2 h3)
theorem JD{ops:Array Oper}{oo:Oper}{a:Act}{w:World}{K:Act->World->Prop}{Q:Exit->Act->World->Prop}{E:Prop}(hgd:oo.guard=none)(s x:Operand)
 (ho:oo.op= .call {callee:= .builtin .append,args:=#[s,x],argTypes:=#[24,24]})
 (B:Nat)(v:Value)(l:List Af)(hs:a.eval s=v)(hown:CV w B v l)(ad:Option Addr)(c:Nat)(y:Af)(hx:a.eval x= .slice ad 1 c)(hc:Bh w ad 1 (Ci [y]))(hn:l.length<=1048576)(hB:B<=w.heap.size)
 (h:∀a' c' w',CV w' B (.slice a' (l.length+1) c') (l++[y])->w.grownBy w' v.ownBlock->K (a.put oo.dst (.slice a' (l.length+1) c')) w'):
 if Region.wanted oo (yielded ops a.tmps)=true then Oper.wp prog oo a w K Q else E:=by
 have hw:Region.wanted oo (yielded ops a.tmps)=true:=by simp[Region.wanted,hgd]
 rw[if_pos hw];obtain⟨a',c',w',hr,h2,h3⟩:=J9 w oo.type B v l hown ad c y hc hn hB;unfold Oper.wp execOp;simp only[ho,resolve,invoke,builtin,Sem.run_bind,Sem.run_pure,Result.andThen_ok,List.map_toArray,List.map_cons,List.map_nil,hs,hx,hr];exact h a' c' w' h2 h3
def Ae.cs(v:Ae):List Value:=[.int .i64 v.id,.int .i64 v.kind,.int .i64 v.up,.int .i64 v.b1,v.c1.val,.string v.data,v.jA.val,v.own.val,.int .i64 v.b2,v.c2.val]
def AY(l:List Ae):List Value:=(l.map Ae.cs).flatten
theorem Uq(l:List Ae):(AY l).length=l.length*10:=by
 induction l with
 |nil=>rfl
 |cons x r ih=>simp[AY,Ae.cs]at *;omega
theorem Ot(l r:List Ae):AY (l++r)=AY l++AY r:=by simp[AY]
theorem Ux{l:List Ae}:∀u∈AY l,u.oneCell'=true:=fun u hu=>by
 simp only[AY,List.mem_flatten,List.mem_map]at hu;obtain⟨_,⟨x,_,rfl⟩,h⟩:=hu;simp only[Ae.cs,List.mem_cons,List.not_mem_nil,or_false]at h;rcases h with rfl|rfl|rfl|rfl|rfl|rfl|rfl|rfl|rfl|rfl<;>rfl
theorem To{l:List Ae}:∀{i:Nat} (hi:i<l.length),(AY l)[i*10]? =some (.int .i64 (l[i]).id)/\(AY l)[i*10+1]? =some (.int .i64 (l[i]).kind)/\(AY l)[i*10+2]? =some (.int .i64 (l[i]).up)/\(AY l)[i*10+3]? =some (.int .i64 (l[i]).b1)/\(AY l)[i*10+4]? =some ((l[i]).c1.val)/\(AY l)[i*10+5]? =some (.string (l[i]).data)/\(AY l)[i*10+6]? =some ((l[i]).jA.val)/\(AY l)[i*10+7]? =some ((l[i]).own.val)/\(AY l)[i*10+8]? =some (.int .i64 (l[i]).b2)/\(AY l)[i*10+9]? =some ((l[i]).c2.val):=by
 induction l with
 |nil=>intro i hi;simp at hi
 |cons x r ih=>
  intro i hi;have e:AY (x::r)=Value.int .i64 x.id::Value.int .i64 x.kind::Value.int .i64 x.up::Value.int .i64 x.b1::x.c1.val::Value.string x.data::x.jA.val::x.own.val::Value.int .i64 x.b2::x.c2.val::AY r:=by simp[AY,Ae.cs]
  rw[e];cases i with
  |zero=>simp
  |succ i=>
   have h:=ih (i:=i) (by simpa using hi);have e1:(i+1)*10=i*10+1+1+1+1+1+1+1+1+1+1:=(by omega);rw[e1];simpa using h
def Ba(w:World)(B:Nat)(v:Value)(l:List Ae):Prop:=w.ownsRow B 51 10 v l.length (AY l)
def Ae.z:Ae:=⟨0,0,0,0,⟨none,0,0,fun _=>0,fun _=>0⟩,⟨#[]⟩,⟨none,0,0,fun _=>⟨#[]⟩⟩,⟨none,0,0,fun _=>0⟩,0,⟨none,0,0,fun _=>0,fun _=>0⟩⟩
def Aa(l:List Ae)(i:Nat):Ae:=l.getD i Ae.z
theorem Ba.nil(w:World)(B:Nat):Ba w B (.slice none 0 0) []:=World.ownsRow_nil _ _ _ _
theorem Ba.made(w:World)(B:Nat)(hb:B<=w.heap.size):Ba (w.alloc (.cells #[] 51)) B (.slice (w.heap.size) 0 0) []:=World.ownsRow_made w #[] 0 hb (Nat.zero_le _) rfl
theorem Ba.shape{l:List Ae}(h:Ba w B v l):∃a c,v= .slice a l.length c:=Cp h
theorem Ba.grown{l:List Ae}(h:Ba w B v l)(hg:w.grownBy w' row)(hne:v.ownBlock=none∨v.ownBlock≠row):Ba w' B v l:=World.ownsRow.kept h hg hne
theorem Ba.below{l:List Ae}(h:Ba w B v l)(hb:Below w.heap.size w w'):Ba w' B v l:=World.ownsRow.kept (row:=none) h ⟨hb.os,hb.tape,hb.output,hb.size,fun k hk _=>hb.block k hk⟩ (by cases v.ownBlock<;>simp)
theorem Ba.base{l:List Ae}(h:Ba w B v l)(hB:B'<=B):Ba w B' v l:=by
 refine⟨h.1,?_⟩;rcases h.2 with hn|⟨g,cap,cur,hv,hbg,rest⟩
 ·exact .inl hn
 ·exact .inr ⟨g,cap,cur,hv,Nat.le_trans hB hbg,rest⟩
theorem Ba.lies{l:List Ae}(h:Ba w B (.slice a l.length c) l)(hat:∀x∈l,x.at w):IF w a l.length (Aa l):=fun hn=>by
 obtain⟨b,off,e,hlt,hc⟩:=Bh.own h hn;refine⟨b,off,e,hlt,fun i hi=>?_⟩;have g:=To hi;have e1:Aa l i=l[i]:=by simp[Aa,hi]
 rw[e1];exact⟨⟨by have:=hc _ _ (g.1);exact this,by have:=hc _ _ (g.2.1);rw[<-Nat.add_assoc]at this;exact this,by have:=hc _ _ (g.2.2.1);rw[<-Nat.add_assoc]at this;exact this,by have:=hc _ _ (g.2.2.2.1);rw[<-Nat.add_assoc]at this;exact this,by have:=hc _ _ (g.2.2.2.2.1);rw[<-Nat.add_assoc]at this;exact this,by have:=hc _ _ (g.2.2.2.2.2.1);rw[<-Nat.add_assoc]at this;exact this,by have:=hc _ _ (g.2.2.2.2.2.2.1);rw[<-Nat.add_assoc]at this;exact this,by have:=hc _ _ (g.2.2.2.2.2.2.2.1);rw[<-Nat.add_assoc]at this;exact this,by have:=hc _ _ (g.2.2.2.2.2.2.2.2.1);rw[<-Nat.add_assoc]at this;exact this,by have:=hc _ _ (g.2.2.2.2.2.2.2.2.2);rw[<-Nat.add_assoc]at this;exact this⟩,hat _ (List.getElem_mem hi)⟩
theorem Ba.one(w:World)(x:Ae):Bh (w.alloc (.cells #[.int .i64 x.id,.int .i64 x.kind,.int .i64 x.up,.int .i64 x.b1,x.c1.val,.string x.data,x.jA.val,x.own.val,.int .i64 x.b2,x.c2.val] 51)) (some ⟨w.heap.size,0,none⟩) 1 (AY [x]):=fun _=>by
 refine⟨w.heap.size,0,rfl,by simp,fun j u hu=>?_⟩;have h:=Ai.new w (.cells #[.int .i64 x.id,.int .i64 x.kind,.int .i64 x.up,.int .i64 x.b1,x.c1.val,.string x.data,x.jA.val,x.own.val,.int .i64 x.b2,x.c2.val] 51);have e:AY [x]=[.int .i64 x.id,.int .i64 x.kind,.int .i64 x.up,.int .i64 x.b1,x.c1.val,.string x.data,x.jA.val,x.own.val,.int .i64 x.b2,x.c2.val]:=by simp[AY,Ae.cs]
 rw[e]at hu;rw[Nat.zero_add];refine h.c0 j ?_;rw[<-hu];simp only[List.getElem?_toArray]
theorem JB(w:World)(tt:TypeId)(B:Nat)(v:Value)(l:List Ae)(hown:Ba w B v l)(ad:Option Addr)(c:Nat)(x:Ae)(hc:Bh w ad 1 (AY [x]))(hn:l.length<=1048576)(hB:B<=w.heap.size):
 ∃a' c' w',(Builtin.append_ #[25,25] tt #[v,.slice ad 1 c]).run prog w= .ok (.slice a' (l.length+1) c') w'/\Ba w' B (.slice a' (l.length+1) c') (l++[x])/\w.grownBy w' v.ownBlock:=by
 obtain⟨a',c',w',h1,h2,h3,_⟩:=FK underlying25 Tryz.info51 rfl (by omega) w tt B v l.length (AY l) hown ad 1 c (AY [x]) (Uq [x]) hc Ux (by omega) (by omega) hB;refine⟨a',c',w',h1,?_,h3⟩;unfold Ba;rw[List.length_append,Ot];exact h2
theorem Ch{ops:Array Oper}{rest:List Oper}{oo:Oper}{a:Act}{Q:Exit->Act->World->Prop}(w:World)(hgd:oo.guard=none)(s x:Operand)
 (ho:oo.op= .call {callee:= .builtin .append,args:=#[s,x],argTypes:=#[25,25]})
 (B:Nat)(v:Value)(l:List Ae)(hs:a.eval s=v)(hown:Ba w B v l)(ad:Option Addr)(c:Nat)(y:Ae)(hx:a.eval x= .slice ad 1 c)(hc:Bh w ad 1 (AY [y]))(hn:l.length<=1048576)(hB:B<=w.heap.size)
 (h:∀a' c' w',Ba w' B (.slice a' (l.length+1) c') (l++[y])->w.grownBy w' v.ownBlock->wpList prog ops Q rest (a.put oo.dst (.slice a' (l.length+1) c')) w'):wpList prog ops Q (oo::rest) a w:=by
 refine wpList_plain hgd fun K hK=>?_;obtain⟨a',c',w',hr,h2,h3⟩:=JB w oo.type B v l hown ad c y hc hn hB;unfold Oper.wp execOp;simp only[ho,resolve,invoke,builtin,Sem.run_bind,Sem.run_pure,Result.andThen_ok,List.map_toArray,List.map_cons,List.map_nil,hs,hx,hr];exact hK _ _ (h a' c' w' h2 h3)
theorem IW{ops:Array Oper}{oo:Oper}{a:Act}{w:World}{K:Act->World->Prop}{Q:Exit->Act->World->Prop}{E:Prop}(hgd:oo.guard=none)(s x:Operand)
 (ho:oo.op= .call {callee:= .builtin .append,args:=#[s,x],argTypes:=#[25,25]})
 (B:Nat)(v:Value)(l:List Ae)(hs:a.eval s=v)(hown:Ba w B v l)(ad:Option Addr)(c:Nat)(y:Ae)(hx:a.eval x= .slice ad 1 c)(hc:Bh w ad 1 (AY [y]))(hn:l.length<=1048576)(hB:B<=w.heap.size)
 (h:∀a' c' w',Ba w' B (.slice a' (l.length+1) c') (l++[y])->w.grownBy w' v.ownBlock->K (a.put oo.dst (.slice a' (l.length+1) c')) w'):
 if Region.wanted oo (yielded ops a.tmps)=true then Oper.wp prog oo a w K Q else E:=by
 have hw:Region.wanted oo (yielded ops a.tmps)=true:=by simp[Region.wanted,hgd]
 rw[if_pos hw];obtain⟨a',c',w',hr,h2,h3⟩:=JB w oo.type B v l hown ad c y hc hn hB;unfold Oper.wp execOp;simp only[ho,resolve,invoke,builtin,Sem.run_bind,Sem.run_pure,Result.andThen_ok,List.map_toArray,List.map_cons,List.map_nil,hs,hx,hr];exact h a' c' w' h2 h3
variable {w:World}{t:Ae}{k:AJ}{a:Option Addr}{n:Nat}
theorem AX.row.at{c:AX}(h:c.row w)(hs:c.small):c.at w:=by
 obtain⟨b,e,hr⟩:=h;refine⟨by unfold maxLen;have:=hs.1;omega,fun _=>⟨b,0,e,hr.lt,fun i hi=>?_⟩,fun i hi=>by unfold maxLen;have:=hs.2 i hi;omega⟩;rw[Nat.zero_add];exact hr.cell hi
theorem Ae.row.at(h:t.row w)(hs:t.small):t.at w:=by
 obtain⟨⟨b1,e1,r1⟩,r2,⟨b3,e3,r3⟩,⟨b4,e4,r4⟩⟩:=h;obtain⟨s1,s2,s3,s4,s5⟩:=hs;refine⟨⟨by unfold maxLen;omega,?_⟩,AX.row.at r2 s3,⟨by unfold maxLen;omega,?_⟩,⟨by unfold maxLen;omega,?_⟩,by unfold maxLen;omega⟩
 ·rw[e1];exact Bi.row r1
 ·rw[e3];exact Ce.row r3
 ·rw[e4];exact Bi.row r4
theorem Af.same.small{t u:Af}(h:t.same u)(hs:t.small):u.small:=by
 obtain⟨_,_,⟨e1,_⟩,_,⟨e2,_⟩,⟨e3,_⟩,_⟩:=h;unfold Af.small at *;rw[e1,e2,e3];exact hs
theorem Ae.same.small{u:Ae}(h:t.same u)(hs:t.small):u.small:=by
 obtain⟨_,_,_,_,⟨e1,_⟩,e2,⟨e3,e4⟩,⟨e5,_⟩,_,⟨e6,_⟩⟩:=h;unfold Ae.small AX.small at *;rw[e1,e2,e3,e4,e5,e6];exact hs
theorem AJ.same.small{l:AJ}(h:k.same l)(hs:k.small):l.small:=by
 obtain⟨e1,h1,e2,h2⟩:=h;obtain⟨⟨n1,s1⟩,⟨n2,s2⟩⟩:=hs;unfold AJ.small;rw[e1,e2];exact⟨⟨n1,fun i hi=>Af.same.small (h1 i hi) (s1 i hi)⟩,⟨n2,fun i hi=>Ae.same.small (h2 i hi) (s2 i hi)⟩⟩
theorem di.cells{b ty N:Nat}{G:Nat->Value}{o:Nat}(hr:w.rowIs b ty N G)(h:di G o t)(ho:o+10<=N):Eg w b o t:=
 ⟨(hr.cell (by omega)).trans (congrArg some h.g0),(hr.cell (by omega)).trans (congrArg some h.g1),(hr.cell (by omega)).trans (congrArg some h.g2),(hr.cell (by omega)).trans (congrArg some h.g3),(hr.cell (by omega)).trans (congrArg some h.g4),(hr.cell (by omega)).trans (congrArg some h.g5),(hr.cell (by omega)).trans (congrArg some h.g6),(hr.cell (by omega)).trans (congrArg some h.g7),(hr.cell (by omega)).trans (congrArg some h.g8),(hr.cell (by omega)).trans (congrArg some h.g9)⟩
theorem IG.at{T:Nat->Af}(h:IG w a n T)(hs:∀i,i<n->(T i).small):JR w a n T:=fun _=>by
 obtain⟨b,G,e,hr,hj⟩:=h;refine⟨b,0,e,hr.lt,fun i hi=>⟨?_,Af.row.at (hj i hi).2 (hs i hi)⟩⟩;rw[Nat.zero_add];exact G7.cells hr (hj i hi).1 (by omega)
theorem Iz.at{T:Nat->Ae}(h:Iz w a n T)(hs:∀i,i<n->(T i).small):IF w a n T:=fun _=>by
 obtain⟨b,G,e,hr,hj⟩:=h;refine⟨b,0,e,hr.lt,fun i hi=>⟨?_,Ae.row.at (hj i hi).2 (hs i hi)⟩⟩;rw[Nat.zero_add];exact di.cells hr (hj i hi).1 (by omega)
theorem AJ.row.at(h:k.row w)(hs:k.small):k.at w:=
 ⟨by unfold maxLen;have:=hs.1.1;omega,by unfold maxLen;have:=hs.2.1;omega,IG.at h.1 hs.1.2,Iz.at h.2 hs.2.2⟩

def Ae.blk(t:Ae):Obj:= .cells #[t.id,t.kind,t.up,t.b1,t.c1.val,.string t.data,t.jA.val,t.own.val,t.b2,t.c2.val] 51

theorem one_byte(w:World)(x:Int)(h0:0<=x)(h1:x<256):
 (convert 22 9 (Value.slice (w) 1 1)).run prog (w.alloc (.cells #[.int .u8 x] 5))= .ok (.string ⟨#[UInt8.ofNat x.toNat]⟩) (w.alloc (.cells #[.int .u8 x] 5)):=by
 refine run_convert_bytes_back (P:=prog) (w.alloc (.cells #[.int .u8 x] 5)) 22 9 5 ⟨w,0,none⟩ 1 [UInt8.ofNat x.toNat] underlying22 underlying5 underlying9 fun j hj=>?_;obtain rfl:j=0:=by simpa using hj
 have e:(((UInt8.ofNat x.toNat).toNat:Nat):Int)=x:=by
  rw[UInt8.toNat_ofNat_of_lt' (by simp[UInt8.size];omega)];omega
 simp only[List.getElem_cons_zero,e];simp[Addr.add]
theorem Lc(b:UInt8)(l:List UInt8):((⟨#[b]⟩:ByteArray)++(⟨l.toArray⟩:ByteArray))=⟨(b::l).toArray⟩:=by
 apply ByteArray.ext;apply Array.ext';simp
variable {lo hi:Nat}
structure Mk(lo hi:Nat)(w w':World):Prop where
 os:w'.os=w.os
 tape:w'.tape=w.tape
 output:w'.output=w.output
 size:w.heap.size<=w'.heap.size
 block:∀k,k<w.heap.size->(k<lo∨hi<=k)->w'.heap[k]? =w.heap[k]?
 rows:∀b ty m F,w.rowIs b ty m F->∃F',w'.rowIs b ty m F'
theorem Mk.refl(lo hi:Nat)(w:World):Mk lo hi w w:=⟨rfl,rfl,rfl,Nat.le_refl _,fun _ _ _=>rfl,fun _ _ _ F h=>⟨F,h⟩⟩
theorem Mk.trans{a b c:World}(h:Mk lo hi a b)(k:Mk lo hi b c):Mk lo hi a c:=
 ⟨k.os.trans h.os,k.tape.trans h.tape,k.output.trans h.output,Nat.le_trans h.size k.size,fun j hj hn=>(k.block j (Nat.lt_of_lt_of_le hj h.size) hn).trans (h.block j hj hn),fun b ty m F hF=>by
   obtain⟨F',h'⟩:=h.rows b ty m F hF;exact k.rows b ty m F' h'⟩
theorem Mk.set{w wr:World}(h:Mk lo hi w wr){b:Nat}(h1:lo<=b)(h2:b<hi)(i:Nat)(v:Value):Mk lo hi w (wr.setCell ⟨b,i,none⟩ v):=
 ⟨h.os,h.tape,h.output,by rw[nblk_setCell];exact h.size,fun k hk hn=>(blk_setCell_other _ _ _ _ (by dsimp only;omega)).trans (h.block k hk hn),fun b' ty m F hF=>by
   obtain⟨F',h'⟩:=h.rows b' ty m F hF;by_cases e:b'=b
   ·subst e;exact⟨_,h'.set i v⟩
   ·exact⟨F',h'.setOther (a:=⟨b,i,none⟩) e v⟩⟩


variable {v:Value}{w w':World}{b n B g:Nat}{ids:Nat->Int}{l:List Int}
def RS(v:Value):Option (DataW Unit×List MemPlace):=
 match v with
 | .pointer none=>some (.lit (.int .i64 (-1)),[])
 | .pointer (some ⟨b,0,none⟩)=>some (.lit (.int .i64 (b:Int)),[])
 |_=>none
theorem MS{c:Int}{ps:List MemPlace}(h:RS v=some (.lit (.int .i64 c),ps)):v= .pointer (if c= -1 then none else some ⟨c.toNat,0,none⟩):=by
 unfold RS at h;split at h
 ·simp only[Option.some.injEq,Prod.mk.injEq,DataW.lit.injEq,Lit.int.injEq]at h;rw[if_pos h.1.2.symm]
 ·simp only[Option.some.injEq,Prod.mk.injEq,DataW.lit.injEq,Lit.int.injEq]at h;obtain⟨⟨_,e⟩,_⟩:=h;rw[if_neg (by omega),<-e];simp
 ·cases h
def Hg(w:World)(b n:Nat)(m:Int->Option Nat):Prop:=
 ∃D:DataW Unit,w.ownsMap prog 2 RS b n D/\IsMap D/\
  ∀x,Maps.has D (.int .i64 x)=(m x).isSome/\∀v,m x=some v->D.atKey (.int .i64 x) (.lit (.int .i64 (-1)))= .lit (.int .i64 (v:Int))
theorem Hg.made(w:World):Hg (w.alloc (.map #[] 0)) w 0 (fun _=>none):=
 ⟨.map [],World.ownsMap_made _ _ _ _,isMap_empty,fun x=>⟨rfl,fun v h=>by cases h⟩⟩
theorem Hg.of_block{m:Int->Option Nat}(h:Hg w b n m)(e:w'.heap[b]? =w.heap[b]?):Hg w' b n m:=by
 obtain⟨D,⟨es,clock,hb,F,hs,hD⟩,r⟩:=h;exact⟨D,⟨es,clock,e.trans hb,F,hs,hD⟩,r⟩
theorem Hg.lt{m:Int->Option Nat}(h:Hg w b n m):b<w.heap.size:=by
 obtain⟨D,h1,_⟩:=h;exact h1.lt
theorem Hg.below{m:Int->Option Nat}(h:Hg w b n m)(hb:Below w w w'):Hg w' b n m:=h.of_block (hb.block b h.lt)
theorem Hg.isMap{m:Int->Option Nat}(h:Hg w b n m):∃es clock,w.heap[b]? =some (.map es clock):=by
 obtain⟨D,⟨es,clock,hb,_⟩,_⟩:=h;exact⟨es,clock,hb⟩
def Qf(m:Int->Option Nat)(k:Int)(v:Nat)(x:Int):Option Nat:=if k=x then some v else m x
theorem Hg.put{D:DataW Unit}{m:Int->Option Nat}{k:Int}{v:Nat}(h2:IsMap D)
 (h3:∀x,Maps.has D (.int .i64 x)=(m x).isSome/\∀v,m x=some v->D.atKey (.int .i64 x) (.lit (.int .i64 (-1)))= .lit (.int .i64 (v:Int))):
 IsMap (D.put (.int .i64 k) (.lit (.int .i64 (v:Int))))/\
 ∀x,Maps.has (D.put (.int .i64 k) (.lit (.int .i64 (v:Int)))) (.int .i64 x)=(Qf m k v x).isSome/\∀u,Qf m k v x=some u->(D.put (.int .i64 k) (.lit (.int .i64 (v:Int)))).atKey (.int .i64 x) (.lit (.int .i64 (-1)))= .lit (.int .i64 (u:Int)):=by
 refine⟨h2.put _ _,fun x=>?_⟩;by_cases e:k=x
 ·subst e;refine⟨?_,fun u hu=>?_⟩
  ·rw[has_put_same h2 (by trivial)];simp[Qf]
  ·simp[Qf]at hu;subst hu;exact atKey_put_same h2 (by trivial) _ _
 ·have hne:(Lit.int .i64 x)≠(Lit.int .i64 k):=by simp;exact fun h=>e h.symm
  refine⟨?_,fun u hu=>?_⟩
  ·rw[has_put_other hne];simp[Qf,e];exact(h3 x).1
  ·simp[Qf,e]at hu;rw[atKey_put_other hne];exact(h3 x).2 u hu
theorem cI(w:World):(zeroValue 100).run prog w= .ok (.pointer none) w:=by kernel_rfl
theorem Hg.look{m:Int->Option Nat}{x:Int}(h:Hg w b n m)(hx:(Lit.int .i64 x).wf=true):
 (Instr.lookup 98 (.map (some b)) (.int .i64 x) false).run prog w= .ok (.pointer ((m x).map fun p=>⟨p,0,none⟩)) w:=by
 obtain⟨D,hown,hD,hall⟩:=h;obtain⟨v,ps,hrun,hv⟩:=hown.lookup SR underlying98 (cI w) (zd:= .lit (.int .i64 (-1))) (zp:=[]) rfl (keyOf_int_mk underlying2 hx);obtain⟨h1,h2⟩:=hall x;rw[hrun];cases hm:m x with
 |none=>
  have:Maps.has D (.int .i64 x)=false:=by rw[h1,hm];rfl
  rw[atKey_of_not_has this]at hv;rw[MS hv];rfl
 |some p=>
  rw[h2 p hm]at hv;rw[MS hv,if_neg (by omega)];simp
theorem Dt.less{m:Nat}(h:Dt ids n)(hm:m<=n):Dt ids m:=fun i j hij hj=>h i j hij (by omega)
theorem Vj{k:Nat}(h:Dt ids (k+1))(x:Int):Bv ids (k+1) x=if ids k=x then some k else Bv ids k x:=by
 split
 ·rename_i e;subst e;exact Dx h (Nat.lt_succ_self k)
 ·rename_i e;cases e1:Bv ids k x with
  |none=>
   cases e2:Bv ids (k+1) x with
   |none=>rfl
   |some j=>
    obtain⟨j1,j2⟩:=AZ e2;by_cases ej:j=k
    ·subst ej;exact absurd j2 e
    ·exact absurd j2 (Jz e1 j (by omega))
  |some j=>
   obtain⟨j1,j2⟩:=AZ e1;rw[<-j2];exact Dx h (by omega)
structure Gl(w:World)(B c n:Nat)(ids:Nat->Int)(ob off:Nat)(nb:Nat->Nat)(kv:Nat->Value)(K:Nat->List Int):Prop where
 map:Hg w c n (fun x=>(Bv ids n x).map nb)
 blk:∀i,i<n->Ai w (nb i) (.cells #[.pointer (some ⟨ob,off+i*10,none⟩),kv i] 103)
 inj:∀i j,i<n->j<n->nb i=nb j->i=j
 own:∀i,i<n->AQ w B (kv i) (K i)
 apart:∀i j,i<n->j<n->i≠j->(kv i).ownBlock=none∨(kv i).ownBlock≠(kv j).ownBlock
 low:∀i,i<n->B<=nb i
 lowc:B<=c
theorem MG(h:AQ w B v l)(e:v.ownBlock=some g):∃cur,w.heap[g]? =some (.cells cur 2):=by
 rcases h.2 with⟨rfl,_⟩|⟨g',cap,cur,rfl,_,hb,_⟩
 ·cases e
 ·simp only[Value.ownBlock,Option.some.injEq]at e;subst e;exact⟨cur,hb⟩
theorem VD(h:AQ w B v l){cs:Array Value}{t:Nat}(hg:Ai w g (.cells cs t))(ht:t≠2):some g≠v.ownBlock:=fun e=>by
 obtain⟨cur,hb⟩:=MG h e.symm;unfold Ai at hg;rw[hg]at hb;simp only[Option.some.injEq,Obj.cells.injEq]at hb;exact ht hb.2.1
theorem Yp(h:AQ w B v l){m:Int->Option Nat}(hg:Hg w g n m):some g≠v.ownBlock:=fun e=>by
 obtain⟨cur,hb⟩:=MG h e.symm;obtain⟨es,clock,hm⟩:=hg.isMap;rw[hm]at hb;cases hb
theorem Gl.below{c:Nat}{ob off:Nat}{nb:Nat->Nat}{kv:Nat->Value}{K:Nat->List Int}(h:Gl w B c n ids ob off nb kv K)(hb:Below w w w'):Gl w' B c n ids ob off nb kv K:=
 ⟨h.map.below hb,fun i hi=>(h.blk i hi).below hb,h.inj,fun i hi=>World.ownsRow.kept (h.own i hi) (row:=none) ⟨hb.os,hb.tape,hb.output,hb.size,fun k hk _=>hb.block k hk⟩ (by
   cases e:(kv i).ownBlock with
   |none=>exact .inl rfl
   |some g=>exact .inr (by simp)),h.apart,h.low,h.lowc⟩
theorem Gl.step{W W':World}{B c n:Nat}{ids:Nat->Int}{ob off:Nat}{nb:Nat->Nat}{kv:Nat->Value}{K:Nat->List Int}(H:Gl W B c n ids ob off nb kv K){u:Nat}(hu:u<n){v':Value}{x:Int}
 (ho:AQ W' B v' (K u++[x]))(hgr:W.grownBy W' (kv u).ownBlock)(hv:v'.ownBlock=(kv u).ownBlock∨v'.ownBlock=some W):
 Gl (W'.setCell ⟨nb u,1,none⟩ v') B c n ids ob off nb (fun j=>if j=u then v' else kv j) (fun j=>if j=u then K u++[x]else K j):=by
 have bk:∀i,i<n->Ai W' (nb i) (.cells #[.pointer (some ⟨ob,off+i*10,none⟩),kv i] 103):=fun i hi=>(hgr.block (nb i) (H.blk i hi).lt (VD (H.own u hu) (H.blk i hi) (by omega))).trans (H.blk i hi);have mk:Hg W' c n (fun x=>(Bv ids n x).map nb):=H.map.of_block (hgr.block c H.map.lt (Yp (H.own u hu) H.map));have cne:c≠nb u:=fun e=>by
  obtain⟨es,clock,hm⟩:=H.map.isMap;have:=H.blk u hu;unfold Ai at this;rw[<-e,hm]at this;cases this
 have gs:W'.grownBy (W'.setCell ⟨nb u,1,none⟩ v') (some (nb u)):=⟨rfl,rfl,rfl,by rw[nblk_setCell];exact Nat.le_refl _,fun j hj hne=>blk_setCell_other _ _ _ _ (by dsimp only;intro e;exact hne (by rw[e]))⟩;have set:∀{v:Value}{X:List Int},AQ W' B v X->AQ (W'.setCell ⟨nb u,1,none⟩ v') B v X:=fun{v X} hX=>
  World.ownsRow.kept hX gs (.inr (fun e=>VD hX (bk u hu) (by omega) e.symm))
 refine⟨mk.of_block (blk_setCell_other _ _ _ _ cne),fun i hi=>?_,H.inj,fun i hi=>?_,fun i j hi hj hne=>?_,H.low,H.lowc⟩
 ·by_cases e:i=u
  ·subst e;rw[if_pos rfl];have:=(bk i hi).jB (i:=1) v';simpa using this
  ·rw[if_neg e];exact(bk i hi).other (fun e'=>e (H.inj i u hi hu e'.symm)) v'
 ·by_cases e:i=u
  ·subst e;rw[if_pos rfl,if_pos rfl];exact set ho
  ·rw[if_neg e,if_neg e];exact set (World.ownsRow.kept (H.own i hi) hgr (H.apart i u hi hu e))
 ·have lt:∀j,j<n->(kv j).ownBlock=none∨(kv j).ownBlock≠some W.heap.size:=fun j hj=> .inr fun e=>by have:=(World.ownsRow.lt (H.own j hj) _ e).2;omega
  by_cases e:i=u
  ·subst e;rw[if_pos rfl,if_neg (fun e=>hne e.symm)];rcases hv with hv|hv
   ·rw[hv];exact H.apart _ _ hi hj hne
   ·rw[hv];exact .inr (fun e=>by have:=(World.ownsRow.lt (H.own j hj) _ e.symm).2;omega)
  ·rw[if_neg e];by_cases e':j=u
   ·subst e';rw[if_pos rfl];rcases hv with hv|hv
    ·rw[hv];exact H.apart _ _ hi hj hne
    ·rw[hv];exact lt i hi
   ·rw[if_neg e'];exact H.apart _ _ hi hj hne
variable {ids ups:Nat->Int}{q i n B:Nat}{w w':World}
def BI(ids ups:Nat->Int)(q i:Nat):List Int:=((List.range q).filter (fun j=>ups j==ids i)).map ids
theorem US(h:ups q=ids i):BI ids ups (q+1) i=BI ids ups q i++[ids q]:=by
 simp[BI,List.range_succ,h]
theorem QM(h:ups q≠ids i):BI ids ups (q+1) i=BI ids ups q i:=by
 simp[BI,List.range_succ,h]
theorem Lm(ids ups:Nat->Int)(q i:Nat):(BI ids ups q i).length<=q:=by
 unfold BI;rw[List.length_map];exact Nat.le_trans (List.length_filter_le _ _) (by simp)
theorem Hg.update{b:Nat}{m:Int->Option Nat}(h:Hg w b n m)(hn:n<maxLen)(kx:Int)(p:Nat)(wk:(Lit.int .i64 kx).wf=true):
 ∃w',(Instr.mapUpdate 98 (.map (some b)) (.int .i64 kx) (.pointer p)).run prog w= .ok () w'/\Hg w' b (n+1) (Qf m kx p)/\w.grownBy w' (some b):=by
 obtain⟨D,hown,hD,hall⟩:=h;obtain⟨w',hrun,r1,r2⟩:=hown.update SR underlying98 hn (keyOf_int_mk underlying2 wk) (val:= .pointer p) (d:= .lit (.int .i64 (p:Int))) (ps:=[]) rfl;have hp:=Hg.put (k:=kx) (v:=p) hD hall;exact⟨w',hrun,⟨_,r1,hp.1,hp.2⟩,r2⟩
theorem AE(h:Below w.heap.size w w'):Below w.heap.size w w'.drew:=below_drewN h 1
theorem below_grown{row:Option Nat}(h:w.grownBy w' row)(hB:B<=w.heap.size)(hr:∀j,row=some j->B<=j):Below B w w':=
 ⟨h.os,h.tape,h.output,h.size,fun k hk=>h.block k (by omega) (fun e=>by have:=hr k e.symm;omega)⟩
theorem Nl{ops:Array Oper}{o:Oper}{a:Act}{w:World}{K:Act->World->Prop}{Q:Exit->Act->World->Prop}{E:Prop}(hgd:o.guard=none)(s x:Operand)
 (ho:o.op= .call {callee:= .builtin .append,args:=#[s,x],argTypes:=#[45,45]})
 (B:Nat)(v:Value)(l:List Int)(hs:a.eval s=v)(hown:AQ w B v l)(ad:Option Addr)(c:Nat)(r:Int)(hx:a.eval x= .slice ad 1 c)(hc:D9 w ad [r])
 (hm:l.length<=100000)(hB:B<=w.heap.size)
 (h:∀a' c' w',AQ w' B (.slice a' (l.length+1) c') (l++[r])->w.grownBy w' v.ownBlock->((Value.slice a' (l.length+1) c').ownBlock=v.ownBlock∨(Value.slice a' (l.length+1) c').ownBlock=some w.heap.size)->K (a.put o.dst (.slice a' (l.length+1) c')) w'):
 if Region.wanted o (yielded ops a.tmps)=true then Oper.wp prog o a w K Q else E:=by
 have hw:Region.wanted o (yielded ops a.tmps)=true:=by simp[Region.wanted,hgd]
 rw[if_pos hw];refine BR underlying45 Tryz.info2 rfl (by omega) w s x ho B v l.length _ hs hown ad 1 c [.int .i64 r] hx rfl hc (by simp[Value.oneCell']) (by omega) (by omega) hB fun a' c' w' h2 h3 h4=>?_;refine h a' c' w' ?_ h3 h4;unfold AQ;rw[List.length_append,List.map_append];exact h2
theorem Gl.same{c:Nat}{ob off:Nat}{nb:Nat->Nat}{kv:Nat->Value}{K K':Nat->List Int}(h:Gl w B c n ids ob off nb kv K)(e:∀i,i<n->K' i=K i):Gl w B c n ids ob off nb kv K':=
 ⟨h.map,h.blk,h.inj,fun i hi=>by rw[e i hi];exact h.own i hi,h.apart,h.low,h.lowc⟩
theorem Gl.grow{wr W w1:World}{B c k:Nat}{ids:Nat->Int}{ob off:Nat}{nb:Nat->Nat}(H:Gl wr B c k ids ob off nb (fun _=> .slice none 0 0) (fun _=>[]))(hr:Dt ids (k+1))(hb:Below wr.heap.size wr W)
 (hA:Ai W wr.heap.size (.cells #[.pointer (some ⟨ob,off+k*10,none⟩),.slice none 0 0] 103))(hM:Hg w1 c (k+1) (Qf (fun x=>(Bv ids k x).map nb) (ids k) wr.heap.size))(hG:W.grownBy w1 (some c)):
 Gl w1 B c (k+1) ids ob off (fun i=>if i=k then wr.heap.size else nb i) (fun _=> .slice none 0 0) (fun _=>[]):=by
 have hc:c<wr.heap.size:=H.map.lt;have cne:∀i,i<k->c≠nb i:=fun i hi e=>by
  obtain⟨es,clock,hm⟩:=H.map.isMap;have:=H.blk i hi;unfold Ai at this;rw[<-e,hm]at this;cases this
 refine⟨?_,fun i hi=>?_,fun i j hi hj=>?_,fun i hi=>AQ.nil _ _,fun i j _ _ _=> .inl rfl,fun i hi=>?_,H.lowc⟩
 ·have e:(fun x=>(Bv ids (k+1) x).map (fun i=>if i=k then wr.heap.size else nb i))=Qf (fun x=>(Bv ids k x).map nb) (ids k) wr.heap.size:=by
   funext x;rw[Vj hr];unfold Qf;split
   ·simp
   ·cases e1:Bv ids k x with
    |none=>simp[e1]
    |some j=>
     have:=(AZ e1).1;simp only[Option.map_some,e1];rw[if_neg (by omega)]
  rw[e];exact hM
 ·by_cases e:i=k
  ·subst e;rw[if_pos rfl];exact(hG.block _ hA.lt (by simp;omega)).trans hA
  ·rw[if_neg e];have h1:=(H.blk i (by omega)).below hb;exact(hG.block _ h1.lt (by simp;exact fun e=>cne i (by omega) e.symm)).trans h1
 ·have lt:∀i,i<k->nb i<wr.heap.size:=fun i hi=>(H.blk i hi).lt;by_cases e:i=k
  ·by_cases e':j=k
   ·omega
   ·rw[if_pos e,if_neg e'];have:=lt j (by omega);omega
  ·by_cases e':j=k
   ·rw[if_neg e,if_pos e'];have:=lt i (by omega);omega
   ·rw[if_neg e,if_neg e'];exact H.inj i j (by omega) (by omega)
 ·split
  ·have:=H.lowc;omega
  ·exact H.low i (by omega)
theorem Tw(ob off n cap:Nat)(O:Nat->Ae)(w:World)(hn:n<=271)(hO:IF w (some ⟨ob,off,none⟩) n O)(hr:Dt (fun i=>(O i).id) n)
 (hw:∀i,i<n->(Lit.int .i64 (O i).id).wf=true/\(Lit.int .i64 (O i).up).wf=true):
 Calls prog 54 #[.slice (some ⟨ob,off,none⟩) n cap] w fun e w'=>∃c nb kv,e= .returned (.map (some c))/\Gl w' w.heap.size c n (fun i=>(O i).id) ob off nb kv (BI (fun i=>(O i).id) (fun i=>(O i).up) n)/\Below w.heap.size w w':=by
 have hmm:=@run_makeMap prog;have HO:=hid hO;have HR:=hid hr;have HW:=hid hw;clear hO hr hw;have M0:=hid (Hg.made w);have hb0:=CY w (.map #[] 0);go_enter func54,ntmps54
 go_wp2;go_loopw [11] (fun i wr=>∃(k:Nat) (nb:Nat->Nat),k<=n/\i= .int .i64 k/\Hid (Gl wr w.heap.size w.heap.size k (fun i=>(O i).id) ob off nb (fun _=> .slice none 0 0) (fun _=>[]))/\Below w.heap.size w wr) (fun i _=>n-(intOf i).toNat)
 case atStart=>
  refine⟨0,fun _=>0,Nat.zero_le _,rfl,hid ⟨?_,fun i hi=>by omega,fun i j hi=>by omega,fun i hi=>by omega,fun i j hi=>by omega,fun i hi=>by omega,Nat.le_refl _⟩,hb0⟩;exact M0.out
 case round=>
  obtain⟨k,nb,hk,rfl,HN,hB⟩:=hrel;clear M0 hb0 hmm;by_cases hlt:k<n
  ·obtain⟨_,_,ea,hlt0,hcc⟩:=HO.out.below hB (by omega);cases ea;have q0:=(hcc k hlt).1.c0;have i1:(k:Int)<(n:Int):=(by omega);have i0:(0:Int)<=(k:Int):=(by omega);have W0:=hid (HW.out k hlt).1;clear hcc;go_wp2;have kn:k<maxLen:=(by unfold maxLen;omega);have n3:No (.cells #[.pointer (some ⟨ob,off+k*10,none⟩),.slice none 0 0] 103):=⟨⟩;have b1:Below wr.heap.size wr ((wr.alloc n3).drew):=AE (CY wr _);have A1:Ai ((wr.alloc n3).drew) wr.heap.size n3:=Ai.new wr _;obtain⟨w1,hrun,hm1,hg1⟩:=(HN.out.map.below b1).update kn (O k).id wr.heap.size W0.out;have HM:=hid hm1;have HG:=hid hg1;have HB:=hid b1;have HA:=hid A1;clear hm1 hg1 b1 A1;go_region;have NN:=hid (HN.out.grow (HR.out.less (by omega)) HB.out HA.out HM.out HG.out);have B1:Below w.heap.size w w1:=(Ac hB HB.out).trans (below_grown HG.out (Ac hB HB.out).size (fun j hj=>by cases hj;exact Nat.le_refl _));clear HM HG HB HA hrun HN q0;go_wp2;exact⟨⟨k+1,_,by omega,by go_num,NN,B1⟩,by simp[intOf];omega⟩
  ·have e:k=n:=(by omega);subst e;have i1:¬(k:Int)<(k:Int):=(by omega);go_wp2;go_loopw [28] (fun i wr=>∃(q:Nat) (kv:Nat->Value),q<=k/\i= .int .i64 q/\Hid (Gl wr w.heap.size w.heap.size k (fun i=>(O i).id) ob off nb kv (BI (fun i=>(O i).id) (fun i=>(O i).up) q))/\Below w.heap.size w wr) (fun i _=>k-(intOf i).toNat)
   case atStart=>exact⟨0,_,Nat.zero_le _,rfl,HN,hB⟩
   case round=>
    obtain⟨q,kv,hq,rfl,HN,hB⟩:=hrel;by_cases hlt:q<k
    ·obtain⟨_,_,ea,hlt0,hcc⟩:=HO.out.below hB (by omega);cases ea;obtain⟨q0,q1,q2,q3,q4,q5,q6,q7,q8,q9⟩:=(hcc q hlt).1;simp only[AH.val,AU.val,AX.val]at q4 q6 q7 q9;have i1:(q:Int)<(k:Int):=(by omega);have b1:Below wr.heap.size wr (wr.alloc (.cells (O q) 51)):=CY wr _;have n1:No (.cells (O q) 51):=⟨⟩;have A1:=Ai.new wr n1;have x0:_=some (Value.int .i64 (O q).id):=A1.c0 0 rfl;have x2:_=some (Value.int .i64 (O q).up):=A1.c0 2 rfl;have N1:=hid (HN.out.below b1);have B1:=Ac hB b1;have LK:=N1.out.map.look (x:=(O q).up) (HW.out q hlt).2;clear hcc hlt0;cases hf:Bv (fun i=>(O i).id) k (O q).up with
     |none=>
      have NK:Hid (∀i,i<k->BI (fun i=>(O i).id) (fun i=>(O i).up) (q+1) i=BI (fun i=>(O i).id) (fun i=>(O i).up) q i):=hid (fun i hi=>QM (fun e=>Jz hf i hi e.symm));simp only[hf,Option.map_none]at LK;clear hf;go_wp2;exact⟨⟨q+1,kv,by omega,by go_num,hid (N1.out.same NK.out),B1⟩,by simp[intOf];omega⟩
     |some u=>
      obtain⟨hu,eu⟩:=AZ hf;have EU:=hid eu;simp only[hf,Option.map_some]at LK;clear hf eu;have A2:=N1.out.blk u hu;have O2:=N1.out.own u hu;have hlen:=Lm (fun i=>(O i).id) (fun i=>(O i).up) q u;go_wp2;generalize wr.alloc n1=W at *;have y1:_=some (kv u):=A2.c0 1 rfl;have n2:Nw (W.alloc (.cells #[.int .i64 (O q).id] 2)):=⟨⟩;have bl:Below W.heap.size W ((n2:World).drew):=AE (CY W _);have N2:=hid (N1.out.below bl);have l1:D9 ((n2:World).drew) (some ⟨W.heap.size,0,none⟩) [(O q).id]:=D9.one (O q).id;have hB2:=Ac B1 bl;have OA:=hid (N2.out.own u hu);have HL:=hid l1;have lm:(BI (fun i=>(O i).id) (fun i=>(O i).up) q u).length<=100000:=(by omega);have s1:=hB2.size;have A3:Hid (∀w3:World,((n2:World).drew).grownBy w3 (kv u).ownBlock->Ai w3 (nb u) (.cells #[.pointer (some ⟨ob,off+u*10,none⟩),kv u] 103)):=hid (fun w3 g3=>(g3.block (nb u) (N2.out.blk u hu).lt (VD (N2.out.own u hu) (N2.out.blk u hu) (by omega))).trans (N2.out.blk u hu));have FIN:Hid (∀(a3:Option Addr) (c3:Nat) (w3:World),AQ w3 w.heap.size (.slice a3 ((BI (fun i=>(O i).id) (fun i=>(O i).up) q u).length+1) c3) (BI (fun i=>(O i).id) (fun i=>(O i).up) q u++[(O q).id])->((n2:World).drew).grownBy w3 (kv u).ownBlock->((Value.slice a3 ((BI (fun i=>(O i).id) (fun i=>(O i).up) q u).length+1) c3).ownBlock=(kv u).ownBlock∨(Value.slice a3 ((BI (fun i=>(O i).id) (fun i=>(O i).up) q u).length+1) c3).ownBlock=some ((n2:World).drew).heap.size)->
       ∃kv',Hid (Gl (w3.setCell ⟨nb u,1,none⟩ (.slice a3 ((BI (fun i=>(O i).id) (fun i=>(O i).up) q u).length+1) c3)) w.heap.size w.heap.size k (fun i=>(O i).id) ob off nb kv' (BI (fun i=>(O i).id) (fun i=>(O i).up) (q+1)))/\Below w.heap.size w (w3.setCell ⟨nb u,1,none⟩ (.slice a3 ((BI (fun i=>(O i).id) (fun i=>(O i).up) q u).length+1) c3))):=hid (fun a3 c3 w3 ho g3 v3=>by
       refine⟨_,hid ((N2.out.step hu ho g3 v3).same (fun i hi=>?_)),?_⟩
       ·split
        ·rename_i e;subst e;exact US EU.out.symm
        ·rename_i e;exact QM (fun e'=>e (HR.out.inj hi hu (by rw[<-e'];exact EU.out.symm)))
       ·exact(hB2.trans (below_grown g3 hB2.size (fun j hj=>(World.ownsRow.lt (N2.out.own u hu) j hj).1))).setCell (N1.out.low u hu) _)
      have y1a:(n2:World).cell? ⟨nb u,1,none⟩=some (kv u):=((CY W _).cell (p:=⟨nb u,1,none⟩) A2.lt).trans y1;have un:¬nb u=W.heap.size:=(by have:=A2.lt;omega);have pn:¬wr.heap.size=W.heap.size:=(by have:=A1.lt;omega);clear l1 bl b1 q0 q1 q2 q3 q4 q5 q6 q7 q8 q9 hlen A1 A2 O2 LK hB2;go_region_law((refine Nl (by rfl) _ _ (by rfl) w.heap.size (kv u) (BI (fun i=>(O i).id) (fun i=>(O i).up) q u) (by rfl) OA.out _ 1 (O q).id (by rfl) HL.out lm s1 ?_;intro a3 c3 w3 O3 g3 v3;have Z:=hid (A3.out w3 g3);have z1:_=some (kv u):=Z.out.c0 1 rfl;have z2:=Z.out.jC 1;have O4:=hid O3;have G4:=hid g3;have V4:=hid v3;clear O3 g3 v3))
      all_goals(
       obtain⟨kv',nn,bb⟩:=FIN.out _ _ _ O4.out G4.out V4.out;clear FIN O4 G4 V4 Z z1 z2 A3 OA HL N2 N1 HN;go_wp2;exact⟨⟨q+1,kv',by omega,by go_num,nn,bb⟩,by simp[intOf];omega⟩)
    ·have e:q=k:=(by omega);subst e;have i1:¬(q:Int)<(q:Int):=(by omega);go_wp2;go_ret;exact⟨_,rfl,⟨_,_,HN.out⟩,hB⟩
end Go.Proofs.YtblapfnglojgjaaGreatDoor
