import Derived.Test.YtallmkehpfaaeaaGreatDoorZ2c
import Derived.Test.YtallmkehpfaaeaaGreatDoorZ3c
import Derived.Deep.RegionHeld3
import Derived.Deep.QuietTactic
import Derived.BigQuiet
import Derived.Test.YtallmkehpfaaeaaGreatDoorZ1c
import Derived.Laws.IdiomStrings
import Derived.Deep.RegionLaw
set_option maxRecDepth 100000
namespace Go.Proofs.YtallmkehpfaaeaaGreatDoor
open Go Go.RowKit Go.Deep Go.Maps Go.Proofs.Tryz
def Ae.cs(v:Ae):List Value:=[.int .i64 v.id,.int .i64 v.b1,v.c1.val,.int .i64 v.b2,v.c2.val,v.own.val,.int .i64 v.made]
def BJ(l:List Ae):List Value:=(l.map Ae.cs).flatten
theorem RV(l:List Ae):(BJ l).length=l.length*7:=by
 induction l with
 |nil=>rfl
 |cons x r ih=>simp[BJ,Ae.cs]at *;omega
theorem Nl(l r:List Ae):BJ (l++r)=BJ l++BJ r:=by simp[BJ]
theorem Q3{l:List Ae}:∀u∈BJ l,u.oneCell'=true:=fun u hu=>by
 simp only[BJ,List.mem_flatten,List.mem_map]at hu;obtain⟨_,⟨x,_,rfl⟩,h⟩:=hu;simp only[Ae.cs,List.mem_cons,List.not_mem_nil,or_false]at h;rcases h with rfl|rfl|rfl|rfl|rfl|rfl|rfl<;>rfl
theorem Q9{l:List Ae}:∀{i:Nat} (hi:i<l.length),(BJ l)[i*7]? =some (.int .i64 (l[i]).id)/\(BJ l)[i*7+1]? =some (.int .i64 (l[i]).b1)/\(BJ l)[i*7+2]? =some ((l[i]).c1.val)/\(BJ l)[i*7+3]? =some (.int .i64 (l[i]).b2)/\(BJ l)[i*7+4]? =some ((l[i]).c2.val)/\(BJ l)[i*7+5]? =some ((l[i]).own.val)/\(BJ l)[i*7+6]? =some (.int .i64 (l[i]).made):=by
 induction l with
 |nil=>intro i hi;simp at hi
 |cons x r ih=>
  intro i hi;have e:BJ (x::r)=Value.int .i64 x.id::Value.int .i64 x.b1::x.c1.val::Value.int .i64 x.b2::x.c2.val::x.own.val::Value.int .i64 x.made::BJ r:=by simp[BJ,Ae.cs]
  rw[e];cases i with
  |zero=>simp
  |succ i=>
   have h:=ih (i:=i) (by simpa using hi);have e1:(i+1)*7=i*7+1+1+1+1+1+1+1:=(by omega);rw[e1];simpa using h
def CZ(w:World)(B:Nat)(v:Value)(l:List Ae):Prop:=w.ownsRow B 42 7 v l.length (BJ l)
def Ae.z:Ae:=⟨0,0,⟨none,0,0,fun _=>0,fun _=>0⟩,0,⟨none,0,0,fun _=>0,fun _=>0⟩,⟨none,0,0,fun _=>0⟩,0⟩
def AY(l:List Ae)(i:Nat):Ae:=l.getD i Ae.z
theorem CZ.nil(w:World)(B:Nat):CZ w B (.slice none 0 0) []:=World.ownsRow_nil _ _ _ _
theorem CZ.made(w:World)(B:Nat)(hb:B<=w.heap.size):CZ (w.alloc (.cells #[] 42)) B (.slice (some ⟨w.heap.size,0,none⟩) 0 0) []:=World.ownsRow_made w #[] 0 hb (Nat.zero_le _) rfl
theorem CZ.shape{w:World}{B:Nat}{v:Value}{l:List Ae}(h:CZ w B v l):∃a c,v= .slice a l.length c:=Cs h
theorem CZ.grown{w w':World}{B:Nat}{row:Option Nat}{v:Value}{l:List Ae}(h:CZ w B v l)(hg:w.grownBy w' row)(hne:v.ownBlock=none∨v.ownBlock≠row):CZ w' B v l:=World.ownsRow.kept h hg hne
theorem CZ.below{w w':World}{B:Nat}{v:Value}{l:List Ae}(h:CZ w B v l)(hb:Below w.heap.size w w'):CZ w' B v l:=World.ownsRow.kept (row:=none) h ⟨hb.os,hb.tape,hb.output,hb.size,fun k hk _=>hb.block k hk⟩ (by cases v.ownBlock<;>simp)
theorem CZ.base{w:World}{B B':Nat}{v:Value}{l:List Ae}(h:CZ w B v l)(hB:B'<=B):CZ w B' v l:=by
 refine⟨h.1,?_⟩;rcases h.2 with hn|⟨g,cap,cur,hv,hbg,rest⟩
 ·exact .inl hn
 ·exact .inr ⟨g,cap,cur,hv,Nat.le_trans hB hbg,rest⟩
theorem CZ.lies{w:World}{B c:Nat}{a:Option Addr}{l:List Ae}(h:CZ w B (.slice a l.length c) l)(hat:∀x∈l,x.at w):Hf w a l.length (AY l):=fun hn=>by
 obtain⟨b,off,e,hlt,hc⟩:=Bh.own h hn;refine⟨b,off,e,hlt,fun i hi=>?_⟩;have g:=Q9 hi;have e1:AY l i=l[i]:=by simp[AY,hi]
 rw[e1];exact⟨⟨by have:=hc _ _ (g.1);exact this,by have:=hc _ _ (g.2.1);rw[<-Nat.add_assoc]at this;exact this,by have:=hc _ _ (g.2.2.1);rw[<-Nat.add_assoc]at this;exact this,by have:=hc _ _ (g.2.2.2.1);rw[<-Nat.add_assoc]at this;exact this,by have:=hc _ _ (g.2.2.2.2.1);rw[<-Nat.add_assoc]at this;exact this,by have:=hc _ _ (g.2.2.2.2.2.1);rw[<-Nat.add_assoc]at this;exact this,by have:=hc _ _ (g.2.2.2.2.2.2);rw[<-Nat.add_assoc]at this;exact this⟩,hat _ (List.getElem_mem hi)⟩
theorem CZ.one(w:World)(x:Ae):Bh (w.alloc (.cells #[.int .i64 x.id,.int .i64 x.b1,x.c1.val,.int .i64 x.b2,x.c2.val,x.own.val,.int .i64 x.made] 42)) (some ⟨w.heap.size,0,none⟩) 1 (BJ [x]):=fun _=>by
 refine⟨w.heap.size,0,rfl,by simp,fun j u hu=>?_⟩;have h:=Ah.new w (.cells #[.int .i64 x.id,.int .i64 x.b1,x.c1.val,.int .i64 x.b2,x.c2.val,x.own.val,.int .i64 x.made] 42);have e:BJ [x]=[.int .i64 x.id,.int .i64 x.b1,x.c1.val,.int .i64 x.b2,x.c2.val,x.own.val,.int .i64 x.made]:=by simp[BJ,Ae.cs]
 rw[e]at hu;rw[Nat.zero_add];refine h.c0 j ?_;rw[<-hu];simp only[List.getElem?_toArray]
theorem HI(w:World)(tt:TypeId)(B:Nat)(v:Value)(l:List Ae)(hown:CZ w B v l)(ad:Option Addr)(c:Nat)(x:Ae)(hc:Bh w ad 1 (BJ [x]))(hn:l.length<=1048576)(hB:B<=w.heap.size):
 ∃a' c' w',(Builtin.append_ #[24,24] tt #[v,.slice ad 1 c]).run prog w= .ok (.slice a' (l.length+1) c') w'/\CZ w' B (.slice a' (l.length+1) c') (l++[x])/\w.grownBy w' v.ownBlock:=by
 obtain⟨a',c',w',h1,h2,h3,_⟩:=Gf underlying24 Tryz.info42 rfl (by omega) w tt B v l.length (BJ l) hown ad 1 c (BJ [x]) (RV [x]) hc Q3 (by omega) (by omega) hB;refine⟨a',c',w',h1,?_,h3⟩;unfold CZ;rw[List.length_append,Nl];exact h2
theorem Jk{ops:Array Oper}{rest:List Oper}{oo:Oper}{a:Act}{Q:Exit->Act->World->Prop}(w:World)(hgd:oo.guard=none)(s x:Operand)
 (ho:oo.op= .call {callee:= .builtin .append,args:=#[s,x],argTypes:=#[24,24]})
 (B:Nat)(v:Value)(l:List Ae)(hs:a.eval s=v)(hown:CZ w B v l)(ad:Option Addr)(c:Nat)(y:Ae)(hx:a.eval x= .slice ad 1 c)(hc:Bh w ad 1 (BJ [y]))(hn:l.length<=1048576)(hB:B<=w.heap.size)
 (h:∀a' c' w',CZ w' B (.slice a' (l.length+1) c') (l++[y])->w.grownBy w' v.ownBlock->wpList prog ops Q rest (a.put oo.dst (.slice a' (l.length+1) c')) w'):wpList prog ops Q (oo::rest) a w:=by
 refine wpList_plain hgd fun K hK=>?_;obtain⟨a',c',w',hr,h2,h3⟩:=HI w oo.type B v l hown ad c y hc hn hB;unfold Oper.wp execOp;simp only[ho,resolve,invoke,builtin,Sem.run_bind,Sem.run_pure,Result.andThen_ok,List.map_toArray,List.map_cons,List.map_nil,hs,hx,hr];exact hK _ _ (h a' c' w' h2 h3)
theorem Hj{ops:Array Oper}{oo:Oper}{a:Act}{w:World}{K:Act->World->Prop}{Q:Exit->Act->World->Prop}{E:Prop}(hgd:oo.guard=none)(s x:Operand)
 (ho:oo.op= .call {callee:= .builtin .append,args:=#[s,x],argTypes:=#[24,24]})
 (B:Nat)(v:Value)(l:List Ae)(hs:a.eval s=v)(hown:CZ w B v l)(ad:Option Addr)(c:Nat)(y:Ae)(hx:a.eval x= .slice ad 1 c)(hc:Bh w ad 1 (BJ [y]))(hn:l.length<=1048576)(hB:B<=w.heap.size)
 (h:∀a' c' w',CZ w' B (.slice a' (l.length+1) c') (l++[y])->w.grownBy w' v.ownBlock->K (a.put oo.dst (.slice a' (l.length+1) c')) w'):
 if Region.wanted oo (yielded ops a.tmps)=true then Oper.wp prog oo a w K Q else E:=by
 have hw:Region.wanted oo (yielded ops a.tmps)=true:=by simp[Region.wanted,hgd]
 rw[if_pos hw];obtain⟨a',c',w',hr,h2,h3⟩:=HI w oo.type B v l hown ad c y hc hn hB;unfold Oper.wp execOp;simp only[ho,resolve,invoke,builtin,Sem.run_bind,Sem.run_pure,Result.andThen_ok,List.map_toArray,List.map_cons,List.map_nil,hs,hx,hr];exact h a' c' w' h2 h3
def Ab.cs(v:Ab):List Value:=[.int .i64 v.id,.int .i64 v.kind,.int .i64 v.up,.int .i64 v.b1,v.c1.val,.string v.data,v.items.val,v.own.val,.int .i64 v.b2,v.c2.val]
def AF(l:List Ab):List Value:=(l.map Ab.cs).flatten
theorem Py(l:List Ab):(AF l).length=l.length*10:=by
 induction l with
 |nil=>rfl
 |cons x r ih=>simp[AF,Ab.cs]at *;omega
theorem Mu(l r:List Ab):AF (l++r)=AF l++AF r:=by simp[AF]
theorem Qu{l:List Ab}:∀u∈AF l,u.oneCell'=true:=fun u hu=>by
 simp only[AF,List.mem_flatten,List.mem_map]at hu;obtain⟨_,⟨x,_,rfl⟩,h⟩:=hu;simp only[Ab.cs,List.mem_cons,List.not_mem_nil,or_false]at h;rcases h with rfl|rfl|rfl|rfl|rfl|rfl|rfl|rfl|rfl|rfl<;>rfl
theorem Kt{l:List Ab}:∀{i:Nat} (hi:i<l.length),(AF l)[i*10]? =some (.int .i64 (l[i]).id)/\(AF l)[i*10+1]? =some (.int .i64 (l[i]).kind)/\(AF l)[i*10+2]? =some (.int .i64 (l[i]).up)/\(AF l)[i*10+3]? =some (.int .i64 (l[i]).b1)/\(AF l)[i*10+4]? =some ((l[i]).c1.val)/\(AF l)[i*10+5]? =some (.string (l[i]).data)/\(AF l)[i*10+6]? =some ((l[i]).items.val)/\(AF l)[i*10+7]? =some ((l[i]).own.val)/\(AF l)[i*10+8]? =some (.int .i64 (l[i]).b2)/\(AF l)[i*10+9]? =some ((l[i]).c2.val):=by
 induction l with
 |nil=>intro i hi;simp at hi
 |cons x r ih=>
  intro i hi;have e:AF (x::r)=Value.int .i64 x.id::Value.int .i64 x.kind::Value.int .i64 x.up::Value.int .i64 x.b1::x.c1.val::Value.string x.data::x.items.val::x.own.val::Value.int .i64 x.b2::x.c2.val::AF r:=by simp[AF,Ab.cs]
  rw[e];cases i with
  |zero=>simp
  |succ i=>
   have h:=ih (i:=i) (by simpa using hi);have e1:(i+1)*10=i*10+1+1+1+1+1+1+1+1+1+1:=(by omega);rw[e1];simpa using h
def AV(w:World)(B:Nat)(v:Value)(l:List Ab):Prop:=w.ownsRow B 47 10 v l.length (AF l)
def Ab.z:Ab:=⟨0,0,0,0,⟨none,0,0,fun _=>0,fun _=>0⟩,⟨#[]⟩,⟨none,0,0,fun _=>⟨#[]⟩⟩,⟨none,0,0,fun _=>0⟩,0,⟨none,0,0,fun _=>0,fun _=>0⟩⟩
def Aa(l:List Ab)(i:Nat):Ab:=l.getD i Ab.z
theorem AV.nil(w:World)(B:Nat):AV w B (.slice none 0 0) []:=World.ownsRow_nil _ _ _ _
theorem AV.made(w:World)(B:Nat)(hb:B<=w.heap.size):AV (w.alloc (.cells #[] 47)) B (.slice (some ⟨w.heap.size,0,none⟩) 0 0) []:=World.ownsRow_made w #[] 0 hb (Nat.zero_le _) rfl
theorem AV.shape{w:World}{B:Nat}{v:Value}{l:List Ab}(h:AV w B v l):∃a c,v= .slice a l.length c:=Cs h
theorem AV.grown{w w':World}{B:Nat}{row:Option Nat}{v:Value}{l:List Ab}(h:AV w B v l)(hg:w.grownBy w' row)(hne:v.ownBlock=none∨v.ownBlock≠row):AV w' B v l:=World.ownsRow.kept h hg hne
theorem AV.below{w w':World}{B:Nat}{v:Value}{l:List Ab}(h:AV w B v l)(hb:Below w.heap.size w w'):AV w' B v l:=World.ownsRow.kept (row:=none) h ⟨hb.os,hb.tape,hb.output,hb.size,fun k hk _=>hb.block k hk⟩ (by cases v.ownBlock<;>simp)
theorem AV.base{w:World}{B B':Nat}{v:Value}{l:List Ab}(h:AV w B v l)(hB:B'<=B):AV w B' v l:=by
 refine⟨h.1,?_⟩;rcases h.2 with hn|⟨g,cap,cur,hv,hbg,rest⟩
 ·exact .inl hn
 ·exact .inr ⟨g,cap,cur,hv,Nat.le_trans hB hbg,rest⟩
theorem AV.lies{w:World}{B c:Nat}{a:Option Addr}{l:List Ab}(h:AV w B (.slice a l.length c) l)(hat:∀x∈l,x.at w):Gz w a l.length (Aa l):=fun hn=>by
 obtain⟨b,off,e,hlt,hc⟩:=Bh.own h hn;refine⟨b,off,e,hlt,fun i hi=>?_⟩;have g:=Kt hi;have e1:Aa l i=l[i]:=by simp[Aa,hi]
 rw[e1];exact⟨⟨by have:=hc _ _ (g.1);exact this,by have:=hc _ _ (g.2.1);rw[<-Nat.add_assoc]at this;exact this,by have:=hc _ _ (g.2.2.1);rw[<-Nat.add_assoc]at this;exact this,by have:=hc _ _ (g.2.2.2.1);rw[<-Nat.add_assoc]at this;exact this,by have:=hc _ _ (g.2.2.2.2.1);rw[<-Nat.add_assoc]at this;exact this,by have:=hc _ _ (g.2.2.2.2.2.1);rw[<-Nat.add_assoc]at this;exact this,by have:=hc _ _ (g.2.2.2.2.2.2.1);rw[<-Nat.add_assoc]at this;exact this,by have:=hc _ _ (g.2.2.2.2.2.2.2.1);rw[<-Nat.add_assoc]at this;exact this,by have:=hc _ _ (g.2.2.2.2.2.2.2.2.1);rw[<-Nat.add_assoc]at this;exact this,by have:=hc _ _ (g.2.2.2.2.2.2.2.2.2);rw[<-Nat.add_assoc]at this;exact this⟩,hat _ (List.getElem_mem hi)⟩
theorem AV.one(w:World)(x:Ab):Bh (w.alloc (.cells #[.int .i64 x.id,.int .i64 x.kind,.int .i64 x.up,.int .i64 x.b1,x.c1.val,.string x.data,x.items.val,x.own.val,.int .i64 x.b2,x.c2.val] 47)) (some ⟨w.heap.size,0,none⟩) 1 (AF [x]):=fun _=>by
 refine⟨w.heap.size,0,rfl,by simp,fun j u hu=>?_⟩;have h:=Ah.new w (.cells #[.int .i64 x.id,.int .i64 x.kind,.int .i64 x.up,.int .i64 x.b1,x.c1.val,.string x.data,x.items.val,x.own.val,.int .i64 x.b2,x.c2.val] 47);have e:AF [x]=[.int .i64 x.id,.int .i64 x.kind,.int .i64 x.up,.int .i64 x.b1,x.c1.val,.string x.data,x.items.val,x.own.val,.int .i64 x.b2,x.c2.val]:=by simp[AF,Ab.cs]
 rw[e]at hu;rw[Nat.zero_add];refine h.c0 j ?_;rw[<-hu];simp only[List.getElem?_toArray]
theorem Hk(w:World)(tt:TypeId)(B:Nat)(v:Value)(l:List Ab)(hown:AV w B v l)(ad:Option Addr)(c:Nat)(x:Ab)(hc:Bh w ad 1 (AF [x]))(hn:l.length<=1048576)(hB:B<=w.heap.size):
 ∃a' c' w',(Builtin.append_ #[25,25] tt #[v,.slice ad 1 c]).run prog w= .ok (.slice a' (l.length+1) c') w'/\AV w' B (.slice a' (l.length+1) c') (l++[x])/\w.grownBy w' v.ownBlock:=by
 obtain⟨a',c',w',h1,h2,h3,_⟩:=Gf underlying25 Tryz.info47 rfl (by omega) w tt B v l.length (AF l) hown ad 1 c (AF [x]) (Py [x]) hc Qu (by omega) (by omega) hB;refine⟨a',c',w',h1,?_,h3⟩;unfold AV;rw[List.length_append,Mu];exact h2
theorem Ci{ops:Array Oper}{rest:List Oper}{oo:Oper}{a:Act}{Q:Exit->Act->World->Prop}(w:World)(hgd:oo.guard=none)(s x:Operand)
 (ho:oo.op= .call {callee:= .builtin .append,args:=#[s,x],argTypes:=#[25,25]})
 (B:Nat)(v:Value)(l:List Ab)(hs:a.eval s=v)(hown:AV w B v l)(ad:Option Addr)(c:Nat)(y:Ab)(hx:a.eval x= .slice ad 1 c)(hc:Bh w ad 1 (AF [y]))(hn:l.length<=1048576)(hB:B<=w.heap.size)
 (h:∀a' c' w',AV w' B (.slice a' (l.length+1) c') (l++[y])->w.grownBy w' v.ownBlock->wpList prog ops Q rest (a.put oo.dst (.slice a' (l.length+1) c')) w'):wpList prog ops Q (oo::rest) a w:=by
 refine wpList_plain hgd fun K hK=>?_;obtain⟨a',c',w',hr,h2,h3⟩:=Hk w oo.type B v l hown ad c y hc hn hB;unfold Oper.wp execOp;simp only[ho,resolve,invoke,builtin,Sem.run_bind,Sem.run_pure,Result.andThen_ok,List.map_toArray,List.map_cons,List.map_nil,hs,hx,hr];exact hK _ _ (h a' c' w' h2 h3)
theorem GP{ops:Array Oper}{oo:Oper}{a:Act}{w:World}{K:Act->World->Prop}{Q:Exit->Act->World->Prop}{E:Prop}(hgd:oo.guard=none)(s x:Operand)
 (ho:oo.op= .call {callee:= .builtin .append,args:=#[s,x],argTypes:=#[25,25]})
 (B:Nat)(v:Value)(l:List Ab)(hs:a.eval s=v)(hown:AV w B v l)(ad:Option Addr)(c:Nat)(y:Ab)(hx:a.eval x= .slice ad 1 c)(hc:Bh w ad 1 (AF [y]))(hn:l.length<=1048576)(hB:B<=w.heap.size)
 (h:∀a' c' w',AV w' B (.slice a' (l.length+1) c') (l++[y])->w.grownBy w' v.ownBlock->K (a.put oo.dst (.slice a' (l.length+1) c')) w'):
 if Region.wanted oo (yielded ops a.tmps)=true then Oper.wp prog oo a w K Q else E:=by
 have hw:Region.wanted oo (yielded ops a.tmps)=true:=by simp[Region.wanted,hgd]
 rw[if_pos hw];obtain⟨a',c',w',hr,h2,h3⟩:=Hk w oo.type B v l hown ad c y hc hn hB;unfold Oper.wp execOp;simp only[ho,resolve,invoke,builtin,Sem.run_bind,Sem.run_pure,Result.andThen_ok,List.map_toArray,List.map_cons,List.map_nil,hs,hx,hr];exact h a' c' w' h2 h3
theorem Ar.row.at{w:World}{c:Ar}(h:c.row w)(hs:c.small):c.at w:=by
 obtain⟨b,e,hr⟩:=h;refine⟨by unfold maxLen;have:=hs.1;omega,fun _=>⟨b,0,e,hr.lt,fun i hi=>?_⟩,fun i hi=>by unfold maxLen;have:=hs.2 i hi;omega⟩;rw[Nat.zero_add];exact hr.cell hi
theorem Ab.row.at{w:World}{t:Ab}(h:t.row w)(hs:t.small):t.at w:=by
 obtain⟨⟨b1,e1,r1⟩,r2,⟨b3,e3,r3⟩,⟨b4,e4,r4⟩⟩:=h;obtain⟨s1,s2,s3,s4,s5⟩:=hs;refine⟨⟨by unfold maxLen;omega,?_⟩,Ar.row.at r2 s3,⟨by unfold maxLen;omega,?_⟩,⟨by unfold maxLen;omega,?_⟩,by unfold maxLen;omega⟩
 ·rw[e1];exact AI.row r1
 ·rw[e3];exact AX.row r3
 ·rw[e4];exact AI.row r4
theorem Ae.same.small{t u:Ae}(h:t.same u)(hs:t.small):u.small:=by
 obtain⟨_,_,⟨e1,_⟩,_,⟨e2,_⟩,⟨e3,_⟩,_⟩:=h;unfold Ae.small at *;rw[e1,e2,e3];exact hs
theorem Ab.same.small{t u:Ab}(h:t.same u)(hs:t.small):u.small:=by
 obtain⟨_,_,_,_,⟨e1,_⟩,e2,⟨e3,e4⟩,⟨e5,_⟩,_,⟨e6,_⟩⟩:=h;unfold Ab.small Ar.small at *;rw[e1,e2,e3,e4,e5,e6];exact hs
theorem Av.same.small{k l:Av}(h:k.same l)(hs:k.small):l.small:=by
 obtain⟨e1,h1,e2,h2⟩:=h;obtain⟨⟨n1,s1⟩,⟨n2,s2⟩⟩:=hs;unfold Av.small;rw[e1,e2];exact⟨⟨n1,fun i hi=>Ae.same.small (h1 i hi) (s1 i hi)⟩,⟨n2,fun i hi=>Ab.same.small (h2 i hi) (s2 i hi)⟩⟩
theorem YQ.cells{w:World}{b ty N:Nat}{G:Nat->Value}{o:Nat}{t:Ab}(hr:w.rowIs b ty N G)(h:YQ G o t)(ho:o+10<=N):Cr w b o t:=
 ⟨(hr.cell (by omega)).trans (congrArg some h.g0),(hr.cell (by omega)).trans (congrArg some h.g1),(hr.cell (by omega)).trans (congrArg some h.g2),(hr.cell (by omega)).trans (congrArg some h.g3),(hr.cell (by omega)).trans (congrArg some h.g4),(hr.cell (by omega)).trans (congrArg some h.g5),(hr.cell (by omega)).trans (congrArg some h.g6),(hr.cell (by omega)).trans (congrArg some h.g7),(hr.cell (by omega)).trans (congrArg some h.g8),(hr.cell (by omega)).trans (congrArg some h.g9)⟩
theorem Gy.at{w:World}{a:Option Addr}{n:Nat}{T:Nat->Ae}(h:Gy w a n T)(hs:∀i,i<n->(T i).small):Hf w a n T:=fun _=>by
 obtain⟨b,G,e,hr,hj⟩:=h;refine⟨b,0,e,hr.lt,fun i hi=>⟨?_,Ae.row.at (hj i hi).2 (hs i hi)⟩⟩;rw[Nat.zero_add];exact G7.cells hr (hj i hi).1 (by omega)
theorem GH.at{w:World}{a:Option Addr}{n:Nat}{T:Nat->Ab}(h:GH w a n T)(hs:∀i,i<n->(T i).small):Gz w a n T:=fun _=>by
 obtain⟨b,G,e,hr,hj⟩:=h;refine⟨b,0,e,hr.lt,fun i hi=>⟨?_,Ab.row.at (hj i hi).2 (hs i hi)⟩⟩;rw[Nat.zero_add];exact YQ.cells hr (hj i hi).1 (by omega)
theorem Av.row.at{w:World}{k:Av}(h:k.row w)(hs:k.small):k.at w:=
 ⟨by unfold maxLen;have:=hs.1.1;omega,by unfold maxLen;have:=hs.2.1;omega,Gy.at h.1 hs.1.2,GH.at h.2 hs.2.2⟩

def Ab.blk(t:Ab):Obj:= .cells #[t.id,t.kind,t.up,t.b1,t.c1.val,.string t.data,t.items.val,t.own.val,t.b2,t.c2.val] 47

theorem one_byte(w:World)(x:Int)(h0:0<=x)(h1:x<256):
 (convert 22 9 (Value.slice (some ⟨w,0,none⟩) 1 1)).run prog (w.alloc (.cells #[.int .u8 x] 5))= .ok (.string ⟨#[UInt8.ofNat x.toNat]⟩) (w.alloc (.cells #[.int .u8 x] 5)):=by
 refine run_convert_bytes_back (P:=prog) (w.alloc (.cells #[.int .u8 x] 5)) 22 9 5 ⟨w,0,none⟩ 1 [UInt8.ofNat x.toNat] underlying22 underlying5 underlying9 fun j hj=>?_;obtain rfl:j=0:=by simpa using hj
 have e:(((UInt8.ofNat x.toNat).toNat:Nat):Int)=x:=by
  rw[UInt8.toNat_ofNat_of_lt' (by simp[UInt8.size];omega)];omega
 simp only[List.getElem_cons_zero,e];simp[Addr.add]
theorem IX(b:UInt8)(l:List UInt8):((⟨#[b]⟩:ByteArray)++(⟨l.toArray⟩:ByteArray))=⟨(b::l).toArray⟩:=by
 apply ByteArray.ext;apply Array.ext';simp
structure Mk(lo hi:Nat)(w w':World):Prop where
 os:w'.os=w.os
 tape:w'.tape=w.tape
 output:w'.output=w.output
 size:w.heap.size<=w'.heap.size
 block:∀k,k<w.heap.size->(k<lo∨hi<=k)->w'.heap[k]? =w.heap[k]?
 rows:∀b ty m F,w.rowIs b ty m F->∃F',w'.rowIs b ty m F'
theorem Mk.refl(lo hi:Nat)(w:World):Mk lo hi w w:=⟨rfl,rfl,rfl,Nat.le_refl _,fun _ _ _=>rfl,fun _ _ _ F h=>⟨F,h⟩⟩
theorem Mk.trans{lo hi:Nat}{a b c:World}(h:Mk lo hi a b)(k:Mk lo hi b c):Mk lo hi a c:=
 ⟨k.os.trans h.os,k.tape.trans h.tape,k.output.trans h.output,Nat.le_trans h.size k.size,fun j hj hn=>(k.block j (Nat.lt_of_lt_of_le hj h.size) hn).trans (h.block j hj hn),fun b ty m F hF=>by
   obtain⟨F',h'⟩:=h.rows b ty m F hF;exact k.rows b ty m F' h'⟩
theorem Mk.set{lo hi:Nat}{w wr:World}(h:Mk lo hi w wr){b:Nat}(h1:lo<=b)(h2:b<hi)(i:Nat)(v:Value):Mk lo hi w (wr.setCell ⟨b,i,none⟩ v):=
 ⟨h.os,h.tape,h.output,by rw[nblk_setCell];exact h.size,fun k hk hn=>(blk_setCell_other _ _ _ _ (by dsimp only;omega)).trans (h.block k hk hn),fun b' ty m F hF=>by
   obtain⟨F',h'⟩:=h.rows b' ty m F hF;by_cases e:b'=b
   ·subst e;exact⟨_,h'.set i v⟩
   ·exact⟨F',h'.setOther (a:=⟨b,i,none⟩) e v⟩⟩


def Oj(v:Value):Option (DataW Unit×List MemPlace):=
 match v with
 | .pointer none=>some (.lit (.int .i64 (-1)),[])
 | .pointer (some ⟨b,0,none⟩)=>some (.lit (.int .i64 (b:Int)),[])
 |_=>none
theorem Kp{v:Value}{c:Int}{ps:List MemPlace}(h:Oj v=some (.lit (.int .i64 c),ps)):v= .pointer (if c= -1 then none else some ⟨c.toNat,0,none⟩):=by
 unfold Oj at h;split at h
 ·simp only[Option.some.injEq,Prod.mk.injEq,DataW.lit.injEq,Lit.int.injEq]at h;rw[if_pos h.1.2.symm]
 ·simp only[Option.some.injEq,Prod.mk.injEq,DataW.lit.injEq,Lit.int.injEq]at h;obtain⟨⟨_,e⟩,_⟩:=h;rw[if_neg (by omega),<-e];simp
 ·cases h
def FR(w:World)(b n:Nat)(m:Int->Option Nat):Prop:=
 ∃D:DataW Unit,w.ownsMap prog 2 Oj b n D/\IsMap D/\
  ∀x,Maps.has D (.int .i64 x)=(m x).isSome/\∀v,m x=some v->D.atKey (.int .i64 x) (.lit (.int .i64 (-1)))= .lit (.int .i64 (v:Int))
theorem FR.made(w:World):FR (w.alloc (.map #[] 0)) w 0 (fun _=>none):=
 ⟨.map [],World.ownsMap_made _ _ _ _,isMap_empty,fun x=>⟨rfl,fun v h=>by cases h⟩⟩
theorem FR.of_block{w w':World}{b n:Nat}{m:Int->Option Nat}(h:FR w b n m)(e:w'.heap[b]? =w.heap[b]?):FR w' b n m:=by
 obtain⟨D,⟨es,clock,hb,F,hs,hD⟩,r⟩:=h;exact⟨D,⟨es,clock,e.trans hb,F,hs,hD⟩,r⟩
theorem FR.lt{w:World}{b n:Nat}{m:Int->Option Nat}(h:FR w b n m):b<w.heap.size:=by
 obtain⟨D,h1,_⟩:=h;exact h1.lt
theorem FR.below{w w':World}{b n:Nat}{m:Int->Option Nat}(h:FR w b n m)(hb:Below w w w'):FR w' b n m:=h.of_block (hb.block b h.lt)
theorem FR.isMap{w:World}{b n:Nat}{m:Int->Option Nat}(h:FR w b n m):∃es clock,w.heap[b]? =some (.map es clock):=by
 obtain⟨D,⟨es,clock,hb,_⟩,_⟩:=h;exact⟨es,clock,hb⟩
def IJ(m:Int->Option Nat)(k:Int)(v:Nat)(x:Int):Option Nat:=if k=x then some v else m x
theorem FR.put{D:DataW Unit}{m:Int->Option Nat}{k:Int}{v:Nat}(h2:IsMap D)
 (h3:∀x,Maps.has D (.int .i64 x)=(m x).isSome/\∀v,m x=some v->D.atKey (.int .i64 x) (.lit (.int .i64 (-1)))= .lit (.int .i64 (v:Int))):
 IsMap (D.put (.int .i64 k) (.lit (.int .i64 (v:Int))))/\
 ∀x,Maps.has (D.put (.int .i64 k) (.lit (.int .i64 (v:Int)))) (.int .i64 x)=(IJ m k v x).isSome/\∀u,IJ m k v x=some u->(D.put (.int .i64 k) (.lit (.int .i64 (v:Int)))).atKey (.int .i64 x) (.lit (.int .i64 (-1)))= .lit (.int .i64 (u:Int)):=by
 refine⟨h2.put _ _,fun x=>?_⟩;by_cases e:k=x
 ·subst e;refine⟨?_,fun u hu=>?_⟩
  ·rw[has_put_same h2 (by trivial)];simp[IJ]
  ·simp[IJ]at hu;subst hu;exact atKey_put_same h2 (by trivial) _ _
 ·have hne:(Lit.int .i64 x)≠(Lit.int .i64 k):=by simp;exact fun h=>e h.symm
  refine⟨?_,fun u hu=>?_⟩
  ·rw[has_put_other hne];simp[IJ,e];exact(h3 x).1
  ·simp[IJ,e]at hu;rw[atKey_put_other hne];exact(h3 x).2 u hu
theorem XQ(w:World):(zeroValue 87).run prog w= .ok (.pointer none) w:=by kernel_rfl
theorem FR.look{w:World}{b n:Nat}{m:Int->Option Nat}{x:Int}(h:FR w b n m)(hx:(Lit.int .i64 x).wf=true):
 (Instr.lookup 88 (.map (some b)) (.int .i64 x) false).run prog w= .ok (.pointer ((m x).map fun p=>⟨p,0,none⟩)) w:=by
 obtain⟨D,hown,hD,hall⟩:=h;obtain⟨v,ps,hrun,hv⟩:=hown.lookup GB underlying88 (XQ w) (zd:= .lit (.int .i64 (-1))) (zp:=[]) rfl (keyOf_int_mk underlying2 hx);obtain⟨h1,h2⟩:=hall x;rw[hrun];cases hm:m x with
 |none=>
  have:Maps.has D (.int .i64 x)=false:=by rw[h1,hm];rfl
  rw[atKey_of_not_has this]at hv;rw[Kp hv];rfl
 |some p=>
  rw[h2 p hm]at hv;rw[Kp hv,if_neg (by omega)];simp
theorem C0.less{ids:Nat->Int}{n m:Nat}(h:C0 ids n)(hm:m<=n):C0 ids m:=fun i j hij hj=>h i j hij (by omega)
theorem R6{ids:Nat->Int}{k:Nat}(h:C0 ids (k+1))(x:Int):Bb ids (k+1) x=if ids k=x then some k else Bb ids k x:=by
 split
 ·rename_i e;subst e;exact Dl h (Nat.lt_succ_self k)
 ·rename_i e;cases e1:Bb ids k x with
  |none=>
   cases e2:Bb ids (k+1) x with
   |none=>rfl
   |some j=>
    obtain⟨j1,j2⟩:=Az e2;by_cases ej:j=k
    ·subst ej;exact absurd j2 e
    ·exact absurd j2 (Hc e1 j (by omega))
  |some j=>
   obtain⟨j1,j2⟩:=Az e1;rw[<-j2];exact Dl h (by omega)
structure Dw(w:World)(B c n:Nat)(ids:Nat->Int)(ob off:Nat)(nb:Nat->Nat)(kv:Nat->Value)(K:Nat->List Int):Prop where
 map:FR w c n (fun x=>(Bb ids n x).map nb)
 blk:∀i,i<n->Ah w (nb i) (.cells #[.pointer (some ⟨ob,off+i*10,none⟩),kv i] 93)
 inj:∀i j,i<n->j<n->nb i=nb j->i=j
 own:∀i,i<n->Au w B (kv i) (K i)
 apart:∀i j,i<n->j<n->i≠j->(kv i).ownBlock=none∨(kv i).ownBlock≠(kv j).ownBlock
 low:∀i,i<n->B<=nb i
 lowc:B<=c
theorem J8{w:World}{B:Nat}{v:Value}{l:List Int}(h:Au w B v l){g:Nat}(e:v.ownBlock=some g):∃cur,w.heap[g]? =some (.cells cur 2):=by
 rcases h.2 with⟨rfl,_⟩|⟨g',cap,cur,rfl,_,hb,_⟩
 ·cases e
 ·simp only[Value.ownBlock,Option.some.injEq]at e;subst e;exact⟨cur,hb⟩
theorem Sk{w:World}{B:Nat}{v:Value}{l:List Int}(h:Au w B v l){g:Nat}{cs:Array Value}{t:Nat}(hg:Ah w g (.cells cs t))(ht:t≠2):some g≠v.ownBlock:=fun e=>by
 obtain⟨cur,hb⟩:=J8 h e.symm;unfold Ah at hg;rw[hg]at hb;simp only[Option.some.injEq,Obj.cells.injEq]at hb;exact ht hb.2.1
theorem Vr{w:World}{B:Nat}{v:Value}{l:List Int}(h:Au w B v l){g n:Nat}{m:Int->Option Nat}(hg:FR w g n m):some g≠v.ownBlock:=fun e=>by
 obtain⟨cur,hb⟩:=J8 h e.symm;obtain⟨es,clock,hm⟩:=hg.isMap;rw[hm]at hb;cases hb
theorem Dw.below{w w':World}{B c n:Nat}{ids:Nat->Int}{ob off:Nat}{nb:Nat->Nat}{kv:Nat->Value}{K:Nat->List Int}(h:Dw w B c n ids ob off nb kv K)(hb:Below w w w'):Dw w' B c n ids ob off nb kv K:=
 ⟨h.map.below hb,fun i hi=>(h.blk i hi).below hb,h.inj,fun i hi=>World.ownsRow.kept (h.own i hi) (row:=none) ⟨hb.os,hb.tape,hb.output,hb.size,fun k hk _=>hb.block k hk⟩ (by
   cases e:(kv i).ownBlock with
   |none=>exact .inl rfl
   |some g=>exact .inr (by simp)),h.apart,h.low,h.lowc⟩
theorem Dw.step{W W':World}{B c n:Nat}{ids:Nat->Int}{ob off:Nat}{nb:Nat->Nat}{kv:Nat->Value}{K:Nat->List Int}(H:Dw W B c n ids ob off nb kv K){u:Nat}(hu:u<n){v':Value}{x:Int}
 (ho:Au W' B v' (K u++[x]))(hgr:W.grownBy W' (kv u).ownBlock)(hv:v'.ownBlock=(kv u).ownBlock∨v'.ownBlock=some W):
 Dw (W'.setCell ⟨nb u,1,none⟩ v') B c n ids ob off nb (fun j=>if j=u then v' else kv j) (fun j=>if j=u then K u++[x]else K j):=by
 have bk:∀i,i<n->Ah W' (nb i) (.cells #[.pointer (some ⟨ob,off+i*10,none⟩),kv i] 93):=fun i hi=>(hgr.block (nb i) (H.blk i hi).lt (Sk (H.own u hu) (H.blk i hi) (by omega))).trans (H.blk i hi);have mk:FR W' c n (fun x=>(Bb ids n x).map nb):=H.map.of_block (hgr.block c H.map.lt (Vr (H.own u hu) H.map));have cne:c≠nb u:=fun e=>by
  obtain⟨es,clock,hm⟩:=H.map.isMap;have:=H.blk u hu;unfold Ah at this;rw[<-e,hm]at this;cases this
 have gs:W'.grownBy (W'.setCell ⟨nb u,1,none⟩ v') (some (nb u)):=⟨rfl,rfl,rfl,by rw[nblk_setCell];exact Nat.le_refl _,fun j hj hne=>blk_setCell_other _ _ _ _ (by dsimp only;intro e;exact hne (by rw[e]))⟩;have set:∀{v:Value}{X:List Int},Au W' B v X->Au (W'.setCell ⟨nb u,1,none⟩ v') B v X:=fun{v X} hX=>
  World.ownsRow.kept hX gs (.inr (fun e=>Sk hX (bk u hu) (by omega) e.symm))
 refine⟨mk.of_block (blk_setCell_other _ _ _ _ cne),fun i hi=>?_,H.inj,fun i hi=>?_,fun i j hi hj hne=>?_,H.low,H.lowc⟩
 ·by_cases e:i=u
  ·subst e;rw[if_pos rfl];have:=(bk i hi).setAt (i:=1) v';simpa using this
  ·rw[if_neg e];exact(bk i hi).other (fun e'=>e (H.inj i u hi hu e'.symm)) v'
 ·by_cases e:i=u
  ·subst e;rw[if_pos rfl,if_pos rfl];exact set ho
  ·rw[if_neg e,if_neg e];exact set (World.ownsRow.kept (H.own i hi) hgr (H.apart i u hi hu e))
 ·have lt:∀j,j<n->(kv j).ownBlock=none∨(kv j).ownBlock≠some W.heap.size:=fun j hj=> .inr fun e=>by have:=(World.ownsRow.lt (H.own j hj) _ e).2;omega
  by_cases e:i=u
  ·subst e;rw[if_pos rfl,if_neg (fun e=>hne e.symm)];rcases hv with hv|hv
   ·rw[hv];exact H.apart _ _ hi hj hne
   ·rw[hv];exact .inr (fun e=>by have:=(World.ownsRow.lt (H.own j hj) _ e.symm).2;omega)
  ·rw[if_neg e];by_cases e':j=u
   ·subst e';rw[if_pos rfl];rcases hv with hv|hv
    ·rw[hv];exact H.apart _ _ hi hj hne
    ·rw[hv];exact lt i hi
   ·rw[if_neg e'];exact H.apart _ _ hi hj hne
end Go.Proofs.YtallmkehpfaaeaaGreatDoor
