import Derived.Test.YtbacmamplkdgaaaGreatDoorZ2b
import Derived.Test.YtbacmamplkdgaaaGreatDoorZ3b
import Derived.Deep.RegionHeld3
import Derived.Deep.QuietTactic
import Derived.BigQuiet
import Derived.Test.YtbacmamplkdgaaaGreatDoorZ1b
import Derived.Laws.IdiomStrings
import Derived.Deep.RegionLaw
set_option maxRecDepth 100000
set_option maxHeartbeats 4000000
namespace Go.Proofs.YtbacmamplkdgaaaGreatDoor
open Go Go.RowKit Go.Deep Go.Maps
def ThrV.cs(v:ThrV):List Value:=[.int .i64 v.id,.int .i64 v.b1,v.c1.val,.int .i64 v.b2,v.c2.val,v.own.val,.int .i64 v.made]
def cells7(l:List ThrV):List Value:=(l.map ThrV.cs).flatten
theorem cells7_len(l:List ThrV):(cells7 l).length=l.length*7:=by
 induction l with
 |nil=>rfl
 |cons x r ih=>simp[cells7,ThrV.cs]at *;omega
theorem cells7_append(l r:List ThrV):cells7 (l++r)=cells7 l++cells7 r:=by simp[cells7]
theorem cells7_one{l:List ThrV}:∀u∈cells7 l,u.oneCell'=true:=fun u hu=>by
 simp only[cells7,List.mem_flatten,List.mem_map]at hu;obtain⟨_,⟨x,_,rfl⟩,h⟩:=hu;simp only[ThrV.cs,List.mem_cons,List.not_mem_nil,or_false]at h;rcases h with rfl|rfl|rfl|rfl|rfl|rfl|rfl<;>rfl
theorem cells7_get{l:List ThrV}:∀{i:Nat} (hi:i<l.length),(cells7 l)[i*7]? =some (.int .i64 (l[i]).id)∧(cells7 l)[i*7+1]? =some (.int .i64 (l[i]).b1)∧(cells7 l)[i*7+2]? =some ((l[i]).c1.val)∧(cells7 l)[i*7+3]? =some (.int .i64 (l[i]).b2)∧(cells7 l)[i*7+4]? =some ((l[i]).c2.val)∧(cells7 l)[i*7+5]? =some ((l[i]).own.val)∧(cells7 l)[i*7+6]? =some (.int .i64 (l[i]).made):=by
 induction l with
 |nil=>intro i hi;simp at hi
 |cons x r ih=>
  intro i hi;have e:cells7 (x::r)=Value.int .i64 x.id::Value.int .i64 x.b1::x.c1.val::Value.int .i64 x.b2::x.c2.val::x.own.val::Value.int .i64 x.made::cells7 r:=by simp[cells7,ThrV.cs]
  rw[e];cases i with
  |zero=>simp
  |succ i=>
   have h:=ih (i:=i) (by simpa using hi);have e1:(i+1)*7=i*7+1+1+1+1+1+1+1:=(by omega);rw[e1];simpa using h
def OwnT(w:World)(B:Nat)(v:Value)(l:List ThrV):Prop:=w.ownsRow B 75 7 v l.length (cells7 l)
def ThrV.z:ThrV:=⟨0,0,⟨none,0,0,fun _=>0,fun _=>0⟩,0,⟨none,0,0,fun _=>0,fun _=>0⟩,⟨none,0,0,fun _=>0⟩,0⟩
def atOwnT(l:List ThrV)(i:Nat):ThrV:=l.getD i ThrV.z
theorem OwnT.nil(w:World)(B:Nat):OwnT w B (.slice none 0 0) []:=World.ownsRow_nil _ _ _ _
theorem OwnT.made(w:World)(B:Nat)(hb:B≤w.heap.size):OwnT (w.alloc (.cells #[] 75)) B (.slice (some ⟨w.heap.size,0,none⟩) 0 0) []:=World.ownsRow_made w #[] 0 hb (Nat.zero_le _) rfl
theorem OwnT.shape{w:World}{B:Nat}{v:Value}{l:List ThrV}(h:OwnT w B v l):∃a c,v= .slice a l.length c:=ownsRow_shape h
theorem OwnT.grown{w w':World}{B:Nat}{row:Option Nat}{v:Value}{l:List ThrV}(h:OwnT w B v l)(hg:w.grownBy w' row)(hne:v.ownBlock=none∨v.ownBlock≠row):OwnT w' B v l:=World.ownsRow.kept h hg hne
theorem OwnT.below{w w':World}{B:Nat}{v:Value}{l:List ThrV}(h:OwnT w B v l)(hb:Below w.heap.size w w'):OwnT w' B v l:=World.ownsRow.kept (row:=none) h ⟨hb.os,hb.tape,hb.output,hb.size,fun k hk _=>hb.block k hk⟩ (by cases v.ownBlock<;>simp)
theorem OwnT.base{w:World}{B B':Nat}{v:Value}{l:List ThrV}(h:OwnT w B v l)(hB:B'≤B):OwnT w B' v l:=by
 refine⟨h.1,?_⟩;rcases h.2 with hn|⟨g,cap,cur,hv,hbg,rest⟩
 ·exact .inl hn
 ·exact .inr ⟨g,cap,cur,hv,Nat.le_trans hB hbg,rest⟩
theorem OwnT.lies{w:World}{B c:Nat}{a:Option Addr}{l:List ThrV}(h:OwnT w B (.slice a l.length c) l)(hat:∀x∈l,x.at w):ThrsAt w a l.length (atOwnT l):=fun hn=>by
 obtain⟨b,off,e,hlt,hc⟩:=LiesC.own h hn;refine⟨b,off,e,hlt,fun i hi=>?_⟩;have g:=cells7_get hi;have e1:atOwnT l i=l[i]:=by simp[atOwnT,hi]
 rw[e1];exact⟨⟨by have:=hc _ _ (g.1);exact this,by have:=hc _ _ (g.2.1);rw[←Nat.add_assoc]at this;exact this,by have:=hc _ _ (g.2.2.1);rw[←Nat.add_assoc]at this;exact this,by have:=hc _ _ (g.2.2.2.1);rw[←Nat.add_assoc]at this;exact this,by have:=hc _ _ (g.2.2.2.2.1);rw[←Nat.add_assoc]at this;exact this,by have:=hc _ _ (g.2.2.2.2.2.1);rw[←Nat.add_assoc]at this;exact this,by have:=hc _ _ (g.2.2.2.2.2.2);rw[←Nat.add_assoc]at this;exact this⟩,hat _ (List.getElem_mem hi)⟩
theorem OwnT.one(w:World)(x:ThrV):LiesC (w.alloc (.cells #[.int .i64 x.id,.int .i64 x.b1,x.c1.val,.int .i64 x.b2,x.c2.val,x.own.val,.int .i64 x.made] 75)) (some ⟨w.heap.size,0,none⟩) 1 (cells7 [x]):=fun _=>by
 refine⟨w.heap.size,0,rfl,by simp,fun j u hu=>?_⟩;have h:=Blk.new w (.cells #[.int .i64 x.id,.int .i64 x.b1,x.c1.val,.int .i64 x.b2,x.c2.val,x.own.val,.int .i64 x.made] 75);have e:cells7 [x]=[.int .i64 x.id,.int .i64 x.b1,x.c1.val,.int .i64 x.b2,x.c2.val,x.own.val,.int .i64 x.made]:=by simp[cells7,ThrV.cs]
 rw[e]at hu;rw[Nat.zero_add];refine h.c0 j ?_;rw[←hu];simp only[List.getElem?_toArray]
theorem run_appendOwnT(w:World)(tt:TypeId)(B:Nat)(v:Value)(l:List ThrV)(hown:OwnT w B v l)(ad:Option Addr)(c:Nat)(x:ThrV)(hc:LiesC w ad 1 (cells7 [x]))(hn:l.length≤1048576)(hB:B≤w.heap.size):
 ∃a' c' w',(Builtin.append_ #[24,24] tt #[v,.slice ad 1 c]).run Tryz.prog w= .ok (.slice a' (l.length+1) c') w'∧OwnT w' B (.slice a' (l.length+1) c') (l++[x])∧w.grownBy w' v.ownBlock:=by
 obtain⟨a',c',w',h1,h2,h3,_⟩:=run_append_gen Tryz.underlying24 Tryz.info75 rfl (by omega) w tt B v l.length (cells7 l) hown ad 1 c (cells7 [x]) (cells7_len [x]) hc cells7_one (by omega) (by omega) hB;refine⟨a',c',w',h1,?_,h3⟩;unfold OwnT;rw[List.length_append,cells7_append];exact h2
theorem wpList_appendOwnT{ops:Array Oper}{rest:List Oper}{oo:Oper}{a:Act}{Q:Exit→Act→World→Prop}(w:World)(hgd:oo.guard=none)(s x:Operand)
 (ho:oo.op= .call {callee:= .builtin .append,args:=#[s,x],argTypes:=#[24,24]})
 (B:Nat)(v:Value)(l:List ThrV)(hs:a.eval s=v)(hown:OwnT w B v l)(ad:Option Addr)(c:Nat)(y:ThrV)(hx:a.eval x= .slice ad 1 c)(hc:LiesC w ad 1 (cells7 [y]))(hn:l.length≤1048576)(hB:B≤w.heap.size)
 (h:∀a' c' w',OwnT w' B (.slice a' (l.length+1) c') (l++[y])→w.grownBy w' v.ownBlock→wpList Tryz.prog ops Q rest (a.put oo.dst (.slice a' (l.length+1) c')) w'):wpList Tryz.prog ops Q (oo::rest) a w:=by
 refine wpList_plain hgd fun K hK=>?_;obtain⟨a',c',w',hr,h2,h3⟩:=run_appendOwnT w oo.type B v l hown ad c y hc hn hB;unfold Oper.wp execOp;simp only[ho,resolve,invoke,builtin,Sem.run_bind,Sem.run_pure,Result.andThen_ok,List.map_toArray,List.map_cons,List.map_nil,hs,hx,hr];exact hK _ _ (h a' c' w' h2 h3)
theorem step_appendOwnT{ops:Array Oper}{oo:Oper}{a:Act}{w:World}{K:Act→World→Prop}{Q:Exit→Act→World→Prop}{E:Prop}(hgd:oo.guard=none)(s x:Operand)
 (ho:oo.op= .call {callee:= .builtin .append,args:=#[s,x],argTypes:=#[24,24]})
 (B:Nat)(v:Value)(l:List ThrV)(hs:a.eval s=v)(hown:OwnT w B v l)(ad:Option Addr)(c:Nat)(y:ThrV)(hx:a.eval x= .slice ad 1 c)(hc:LiesC w ad 1 (cells7 [y]))(hn:l.length≤1048576)(hB:B≤w.heap.size)
 (h:∀a' c' w',OwnT w' B (.slice a' (l.length+1) c') (l++[y])→w.grownBy w' v.ownBlock→K (a.put oo.dst (.slice a' (l.length+1) c')) w'):
 if Region.wanted oo (yielded ops a.tmps)=true then Oper.wp Tryz.prog oo a w K Q else E:=by
 have hw:Region.wanted oo (yielded ops a.tmps)=true:=by simp[Region.wanted,hgd]
 rw[if_pos hw];obtain⟨a',c',w',hr,h2,h3⟩:=run_appendOwnT w oo.type B v l hown ad c y hc hn hB;unfold Oper.wp execOp;simp only[ho,resolve,invoke,builtin,Sem.run_bind,Sem.run_pure,Result.andThen_ok,List.map_toArray,List.map_cons,List.map_nil,hs,hx,hr];exact h a' c' w' h2 h3
def ObjV.cs(v:ObjV):List Value:=[.int .i64 v.id,.int .i64 v.kind,.int .i64 v.up,.int .i64 v.b1,v.c1.val,.string v.data,v.items.val,v.own.val,.int .i64 v.b2,v.c2.val]
def cells10(l:List ObjV):List Value:=(l.map ObjV.cs).flatten
theorem cells10_len(l:List ObjV):(cells10 l).length=l.length*10:=by
 induction l with
 |nil=>rfl
 |cons x r ih=>simp[cells10,ObjV.cs]at *;omega
theorem cells10_append(l r:List ObjV):cells10 (l++r)=cells10 l++cells10 r:=by simp[cells10]
theorem cells10_one{l:List ObjV}:∀u∈cells10 l,u.oneCell'=true:=fun u hu=>by
 simp only[cells10,List.mem_flatten,List.mem_map]at hu;obtain⟨_,⟨x,_,rfl⟩,h⟩:=hu;simp only[ObjV.cs,List.mem_cons,List.not_mem_nil,or_false]at h;rcases h with rfl|rfl|rfl|rfl|rfl|rfl|rfl|rfl|rfl|rfl<;>rfl
theorem cells10_get{l:List ObjV}:∀{i:Nat} (hi:i<l.length),(cells10 l)[i*10]? =some (.int .i64 (l[i]).id)∧(cells10 l)[i*10+1]? =some (.int .i64 (l[i]).kind)∧(cells10 l)[i*10+2]? =some (.int .i64 (l[i]).up)∧(cells10 l)[i*10+3]? =some (.int .i64 (l[i]).b1)∧(cells10 l)[i*10+4]? =some ((l[i]).c1.val)∧(cells10 l)[i*10+5]? =some (.string (l[i]).data)∧(cells10 l)[i*10+6]? =some ((l[i]).items.val)∧(cells10 l)[i*10+7]? =some ((l[i]).own.val)∧(cells10 l)[i*10+8]? =some (.int .i64 (l[i]).b2)∧(cells10 l)[i*10+9]? =some ((l[i]).c2.val):=by
 induction l with
 |nil=>intro i hi;simp at hi
 |cons x r ih=>
  intro i hi;have e:cells10 (x::r)=Value.int .i64 x.id::Value.int .i64 x.kind::Value.int .i64 x.up::Value.int .i64 x.b1::x.c1.val::Value.string x.data::x.items.val::x.own.val::Value.int .i64 x.b2::x.c2.val::cells10 r:=by simp[cells10,ObjV.cs]
  rw[e];cases i with
  |zero=>simp
  |succ i=>
   have h:=ih (i:=i) (by simpa using hi);have e1:(i+1)*10=i*10+1+1+1+1+1+1+1+1+1+1:=(by omega);rw[e1];simpa using h
def OwnOb(w:World)(B:Nat)(v:Value)(l:List ObjV):Prop:=w.ownsRow B 42 10 v l.length (cells10 l)
def ObjV.z:ObjV:=⟨0,0,0,0,⟨none,0,0,fun _=>0,fun _=>0⟩,⟨#[]⟩,⟨none,0,0,fun _=>⟨#[]⟩⟩,⟨none,0,0,fun _=>0⟩,0,⟨none,0,0,fun _=>0,fun _=>0⟩⟩
def atOwnOb(l:List ObjV)(i:Nat):ObjV:=l.getD i ObjV.z
theorem OwnOb.nil(w:World)(B:Nat):OwnOb w B (.slice none 0 0) []:=World.ownsRow_nil _ _ _ _
theorem OwnOb.made(w:World)(B:Nat)(hb:B≤w.heap.size):OwnOb (w.alloc (.cells #[] 42)) B (.slice (some ⟨w.heap.size,0,none⟩) 0 0) []:=World.ownsRow_made w #[] 0 hb (Nat.zero_le _) rfl
theorem OwnOb.shape{w:World}{B:Nat}{v:Value}{l:List ObjV}(h:OwnOb w B v l):∃a c,v= .slice a l.length c:=ownsRow_shape h
theorem OwnOb.grown{w w':World}{B:Nat}{row:Option Nat}{v:Value}{l:List ObjV}(h:OwnOb w B v l)(hg:w.grownBy w' row)(hne:v.ownBlock=none∨v.ownBlock≠row):OwnOb w' B v l:=World.ownsRow.kept h hg hne
theorem OwnOb.below{w w':World}{B:Nat}{v:Value}{l:List ObjV}(h:OwnOb w B v l)(hb:Below w.heap.size w w'):OwnOb w' B v l:=World.ownsRow.kept (row:=none) h ⟨hb.os,hb.tape,hb.output,hb.size,fun k hk _=>hb.block k hk⟩ (by cases v.ownBlock<;>simp)
theorem OwnOb.base{w:World}{B B':Nat}{v:Value}{l:List ObjV}(h:OwnOb w B v l)(hB:B'≤B):OwnOb w B' v l:=by
 refine⟨h.1,?_⟩;rcases h.2 with hn|⟨g,cap,cur,hv,hbg,rest⟩
 ·exact .inl hn
 ·exact .inr ⟨g,cap,cur,hv,Nat.le_trans hB hbg,rest⟩
theorem OwnOb.lies{w:World}{B c:Nat}{a:Option Addr}{l:List ObjV}(h:OwnOb w B (.slice a l.length c) l)(hat:∀x∈l,x.at w):ObjsAt w a l.length (atOwnOb l):=fun hn=>by
 obtain⟨b,off,e,hlt,hc⟩:=LiesC.own h hn;refine⟨b,off,e,hlt,fun i hi=>?_⟩;have g:=cells10_get hi;have e1:atOwnOb l i=l[i]:=by simp[atOwnOb,hi]
 rw[e1];exact⟨⟨by have:=hc _ _ (g.1);exact this,by have:=hc _ _ (g.2.1);rw[←Nat.add_assoc]at this;exact this,by have:=hc _ _ (g.2.2.1);rw[←Nat.add_assoc]at this;exact this,by have:=hc _ _ (g.2.2.2.1);rw[←Nat.add_assoc]at this;exact this,by have:=hc _ _ (g.2.2.2.2.1);rw[←Nat.add_assoc]at this;exact this,by have:=hc _ _ (g.2.2.2.2.2.1);rw[←Nat.add_assoc]at this;exact this,by have:=hc _ _ (g.2.2.2.2.2.2.1);rw[←Nat.add_assoc]at this;exact this,by have:=hc _ _ (g.2.2.2.2.2.2.2.1);rw[←Nat.add_assoc]at this;exact this,by have:=hc _ _ (g.2.2.2.2.2.2.2.2.1);rw[←Nat.add_assoc]at this;exact this,by have:=hc _ _ (g.2.2.2.2.2.2.2.2.2);rw[←Nat.add_assoc]at this;exact this⟩,hat _ (List.getElem_mem hi)⟩
theorem OwnOb.one(w:World)(x:ObjV):LiesC (w.alloc (.cells #[.int .i64 x.id,.int .i64 x.kind,.int .i64 x.up,.int .i64 x.b1,x.c1.val,.string x.data,x.items.val,x.own.val,.int .i64 x.b2,x.c2.val] 42)) (some ⟨w.heap.size,0,none⟩) 1 (cells10 [x]):=fun _=>by
 refine⟨w.heap.size,0,rfl,by simp,fun j u hu=>?_⟩;have h:=Blk.new w (.cells #[.int .i64 x.id,.int .i64 x.kind,.int .i64 x.up,.int .i64 x.b1,x.c1.val,.string x.data,x.items.val,x.own.val,.int .i64 x.b2,x.c2.val] 42);have e:cells10 [x]=[.int .i64 x.id,.int .i64 x.kind,.int .i64 x.up,.int .i64 x.b1,x.c1.val,.string x.data,x.items.val,x.own.val,.int .i64 x.b2,x.c2.val]:=by simp[cells10,ObjV.cs]
 rw[e]at hu;rw[Nat.zero_add];refine h.c0 j ?_;rw[←hu];simp only[List.getElem?_toArray]
theorem run_appendOwnOb(w:World)(tt:TypeId)(B:Nat)(v:Value)(l:List ObjV)(hown:OwnOb w B v l)(ad:Option Addr)(c:Nat)(x:ObjV)(hc:LiesC w ad 1 (cells10 [x]))(hn:l.length≤1048576)(hB:B≤w.heap.size):
 ∃a' c' w',(Builtin.append_ #[25,25] tt #[v,.slice ad 1 c]).run Tryz.prog w= .ok (.slice a' (l.length+1) c') w'∧OwnOb w' B (.slice a' (l.length+1) c') (l++[x])∧w.grownBy w' v.ownBlock:=by
 obtain⟨a',c',w',h1,h2,h3,_⟩:=run_append_gen Tryz.underlying25 Tryz.info42 rfl (by omega) w tt B v l.length (cells10 l) hown ad 1 c (cells10 [x]) (cells10_len [x]) hc cells10_one (by omega) (by omega) hB;refine⟨a',c',w',h1,?_,h3⟩;unfold OwnOb;rw[List.length_append,cells10_append];exact h2
theorem wpList_appendOwnOb{ops:Array Oper}{rest:List Oper}{oo:Oper}{a:Act}{Q:Exit→Act→World→Prop}(w:World)(hgd:oo.guard=none)(s x:Operand)
 (ho:oo.op= .call {callee:= .builtin .append,args:=#[s,x],argTypes:=#[25,25]})
 (B:Nat)(v:Value)(l:List ObjV)(hs:a.eval s=v)(hown:OwnOb w B v l)(ad:Option Addr)(c:Nat)(y:ObjV)(hx:a.eval x= .slice ad 1 c)(hc:LiesC w ad 1 (cells10 [y]))(hn:l.length≤1048576)(hB:B≤w.heap.size)
 (h:∀a' c' w',OwnOb w' B (.slice a' (l.length+1) c') (l++[y])→w.grownBy w' v.ownBlock→wpList Tryz.prog ops Q rest (a.put oo.dst (.slice a' (l.length+1) c')) w'):wpList Tryz.prog ops Q (oo::rest) a w:=by
 refine wpList_plain hgd fun K hK=>?_;obtain⟨a',c',w',hr,h2,h3⟩:=run_appendOwnOb w oo.type B v l hown ad c y hc hn hB;unfold Oper.wp execOp;simp only[ho,resolve,invoke,builtin,Sem.run_bind,Sem.run_pure,Result.andThen_ok,List.map_toArray,List.map_cons,List.map_nil,hs,hx,hr];exact hK _ _ (h a' c' w' h2 h3)
theorem step_appendOwnOb{ops:Array Oper}{oo:Oper}{a:Act}{w:World}{K:Act→World→Prop}{Q:Exit→Act→World→Prop}{E:Prop}(hgd:oo.guard=none)(s x:Operand)
 (ho:oo.op= .call {callee:= .builtin .append,args:=#[s,x],argTypes:=#[25,25]})
 (B:Nat)(v:Value)(l:List ObjV)(hs:a.eval s=v)(hown:OwnOb w B v l)(ad:Option Addr)(c:Nat)(y:ObjV)(hx:a.eval x= .slice ad 1 c)(hc:LiesC w ad 1 (cells10 [y]))(hn:l.length≤1048576)(hB:B≤w.heap.size)
 (h:∀a' c' w',OwnOb w' B (.slice a' (l.length+1) c') (l++[y])→w.grownBy w' v.ownBlock→K (a.put oo.dst (.slice a' (l.length+1) c')) w'):
 if Region.wanted oo (yielded ops a.tmps)=true then Oper.wp Tryz.prog oo a w K Q else E:=by
 have hw:Region.wanted oo (yielded ops a.tmps)=true:=by simp[Region.wanted,hgd]
 rw[if_pos hw];obtain⟨a',c',w',hr,h2,h3⟩:=run_appendOwnOb w oo.type B v l hown ad c y hc hn hB;unfold Oper.wp execOp;simp only[ho,resolve,invoke,builtin,Sem.run_bind,Sem.run_pure,Result.andThen_ok,List.map_toArray,List.map_cons,List.map_nil,hs,hx,hr];exact h a' c' w' h2 h3
theorem StrL.row.at{w:World}{c:StrL}(h:c.row w)(hs:c.small):c.at w:=by
 obtain⟨b,e,hr⟩:=h;refine⟨by unfold maxLen;have:=hs.1;omega,fun _=>⟨b,0,e,hr.lt,fun i hi=>?_⟩,fun i hi=>by unfold maxLen;have:=hs.2 i hi;omega⟩;rw[Nat.zero_add];exact hr.cell hi
theorem ObjV.row.at{w:World}{t:ObjV}(h:t.row w)(hs:t.small):t.at w:=by
 obtain⟨⟨b1,e1,r1⟩,r2,⟨b3,e3,r3⟩,⟨b4,e4,r4⟩⟩:=h;obtain⟨s1,s2,s3,s4,s5⟩:=hs;refine⟨⟨by unfold maxLen;omega,?_⟩,StrL.row.at r2 s3,⟨by unfold maxLen;omega,?_⟩,⟨by unfold maxLen;omega,?_⟩,by unfold maxLen;omega⟩
 ·rw[e1];exact CatsAt.row r1
 ·rw[e3];exact IntsAt.row r3
 ·rw[e4];exact CatsAt.row r4
theorem ThrV.same.small{t u:ThrV}(h:t.same u)(hs:t.small):u.small:=by
 obtain⟨_,_,⟨e1,_⟩,_,⟨e2,_⟩,⟨e3,_⟩,_⟩:=h;unfold ThrV.small at *;rw[e1,e2,e3];exact hs
theorem ObjV.same.small{t u:ObjV}(h:t.same u)(hs:t.small):u.small:=by
 obtain⟨_,_,_,_,⟨e1,_⟩,e2,⟨e3,e4⟩,⟨e5,_⟩,_,⟨e6,_⟩⟩:=h;unfold ObjV.small StrL.small at *;rw[e1,e2,e3,e4,e5,e6];exact hs
theorem KerV.same.small{k l:KerV}(h:k.same l)(hs:k.small):l.small:=by
 obtain⟨e1,h1,e2,h2⟩:=h;obtain⟨⟨n1,s1⟩,⟨n2,s2⟩⟩:=hs;unfold KerV.small;rw[e1,e2];exact⟨⟨n1,fun i hi=>ThrV.same.small (h1 i hi) (s1 i hi)⟩,⟨n2,fun i hi=>ObjV.same.small (h2 i hi) (s2 i hi)⟩⟩
theorem G10.cells{w:World}{b ty N:Nat}{G:Nat→Value}{o:Nat}{t:ObjV}(hr:w.rowIs b ty N G)(h:G10 G o t)(ho:o+10≤N):Cells10 w b o t:=
 ⟨(hr.cell (by omega)).trans (congrArg some h.g0),(hr.cell (by omega)).trans (congrArg some h.g1),(hr.cell (by omega)).trans (congrArg some h.g2),(hr.cell (by omega)).trans (congrArg some h.g3),(hr.cell (by omega)).trans (congrArg some h.g4),(hr.cell (by omega)).trans (congrArg some h.g5),(hr.cell (by omega)).trans (congrArg some h.g6),(hr.cell (by omega)).trans (congrArg some h.g7),(hr.cell (by omega)).trans (congrArg some h.g8),(hr.cell (by omega)).trans (congrArg some h.g9)⟩
theorem ThrRow.at{w:World}{a:Option Addr}{n:Nat}{T:Nat→ThrV}(h:ThrRow w a n T)(hs:∀i,i<n→(T i).small):ThrsAt w a n T:=fun _=>by
 obtain⟨b,G,e,hr,hj⟩:=h;refine⟨b,0,e,hr.lt,fun i hi=>⟨?_,ThrV.row.at (hj i hi).2 (hs i hi)⟩⟩;rw[Nat.zero_add];exact G7.cells hr (hj i hi).1 (by omega)
theorem ObjRow.at{w:World}{a:Option Addr}{n:Nat}{T:Nat→ObjV}(h:ObjRow w a n T)(hs:∀i,i<n→(T i).small):ObjsAt w a n T:=fun _=>by
 obtain⟨b,G,e,hr,hj⟩:=h;refine⟨b,0,e,hr.lt,fun i hi=>⟨?_,ObjV.row.at (hj i hi).2 (hs i hi)⟩⟩;rw[Nat.zero_add];exact G10.cells hr (hj i hi).1 (by omega)
theorem KerV.row.at{w:World}{k:KerV}(h:k.row w)(hs:k.small):k.at w:=
 ⟨by unfold maxLen;have:=hs.1.1;omega,by unfold maxLen;have:=hs.2.1;omega,ThrRow.at h.1 hs.1.2,ObjRow.at h.2 hs.2.2⟩

def ObjV.blk(t:ObjV):Obj:= .cells #[.int .i64 t.id,.int .i64 t.kind,.int .i64 t.up,.int .i64 t.b1,t.c1.val,.string t.data,t.items.val,t.own.val,.int .i64 t.b2,t.c2.val] 42

theorem one_byte(w:World)(x:Int)(h0:0≤x)(h1:x<256):
 (convert 22 9 (Value.slice (some ⟨w.heap.size,0,none⟩) 1 1)).run Tryz.prog (w.alloc (.cells #[.int .u8 x] 5))= .ok (.string ⟨#[UInt8.ofNat x.toNat]⟩) (w.alloc (.cells #[.int .u8 x] 5)):=by
 refine run_convert_bytes_back (P:=Tryz.prog) (w.alloc (.cells #[.int .u8 x] 5)) 22 9 5 ⟨w.heap.size,0,none⟩ 1 [UInt8.ofNat x.toNat] Tryz.underlying22 Tryz.underlying5 Tryz.underlying9 fun j hj=>?_;obtain rfl:j=0:=by simpa using hj
 have e:(((UInt8.ofNat x.toNat).toNat:Nat):Int)=x:=by
  rw[UInt8.toNat_ofNat_of_lt' (by simp[UInt8.size];omega)];omega
 simp only[List.getElem_cons_zero,e];simp[Addr.add]
theorem bytes_cons(b:UInt8)(l:List UInt8):((⟨#[b]⟩:ByteArray)++(⟨l.toArray⟩:ByteArray))=⟨(b::l).toArray⟩:=by
 apply ByteArray.ext;apply Array.ext';simp
structure Mk(lo hi:Nat)(w w':World):Prop where
 os:w'.os=w.os
 tape:w'.tape=w.tape
 output:w'.output=w.output
 size:w.heap.size≤w'.heap.size
 block:∀k,k<w.heap.size→(k<lo∨hi≤k)→w'.heap[k]? =w.heap[k]?
 rows:∀b ty m F,w.rowIs b ty m F→∃F',w'.rowIs b ty m F'
theorem Mk.refl(lo hi:Nat)(w:World):Mk lo hi w w:=⟨rfl,rfl,rfl,Nat.le_refl _,fun _ _ _=>rfl,fun _ _ _ F h=>⟨F,h⟩⟩
theorem Mk.trans{lo hi:Nat}{a b c:World}(h:Mk lo hi a b)(k:Mk lo hi b c):Mk lo hi a c:=
 ⟨k.os.trans h.os,k.tape.trans h.tape,k.output.trans h.output,Nat.le_trans h.size k.size,fun j hj hn=>(k.block j (Nat.lt_of_lt_of_le hj h.size) hn).trans (h.block j hj hn),fun b ty m F hF=>by
   obtain⟨F',h'⟩:=h.rows b ty m F hF;exact k.rows b ty m F' h'⟩
theorem Mk.set{lo hi:Nat}{w wr:World}(h:Mk lo hi w wr){b:Nat}(h1:lo≤b)(h2:b<hi)(i:Nat)(v:Value):Mk lo hi w (wr.setCell ⟨b,i,none⟩ v):=
 ⟨h.os,h.tape,h.output,by rw[nblk_setCell];exact h.size,fun k hk hn=>(blk_setCell_other _ _ _ _ (by dsimp only;omega)).trans (h.block k hk hn),fun b' ty m F hF=>by
   obtain⟨F',h'⟩:=h.rows b' ty m F hF;by_cases e:b'=b
   ·subst e;exact⟨_,h'.set i v⟩
   ·exact⟨F',h'.setOther (a:=⟨b,i,none⟩) e v⟩⟩


def ptrElem(v:Value):Option (DataW Unit×List MemPlace):=
 match v with
 | .pointer none=>some (.lit (.int .i64 (-1)),[])
 | .pointer (some ⟨b,0,none⟩)=>some (.lit (.int .i64 (b:Int)),[])
 |_=>none
theorem ptrElem_inv{v:Value}{c:Int}{ps:List MemPlace}(h:ptrElem v=some (.lit (.int .i64 c),ps)):v= .pointer (if c= -1 then none else some ⟨c.toNat,0,none⟩):=by
 unfold ptrElem at h;split at h
 ·simp only[Option.some.injEq,Prod.mk.injEq,DataW.lit.injEq,Lit.int.injEq]at h;rw[if_pos h.1.2.symm]
 ·simp only[Option.some.injEq,Prod.mk.injEq,DataW.lit.injEq,Lit.int.injEq]at h;obtain⟨⟨_,e⟩,_⟩:=h;rw[if_neg (by omega),←e];simp
 ·cases h
def MapP(w:World)(b n:Nat)(m:Int→Option Nat):Prop:=
 ∃D:DataW Unit,w.ownsMap Tryz.prog 2 ptrElem b n D∧IsMap D∧
  ∀x,Maps.has D (.int .i64 x)=(m x).isSome∧∀v,m x=some v→D.atKey (.int .i64 x) (.lit (.int .i64 (-1)))= .lit (.int .i64 (v:Int))
theorem MapP.made(w:World):MapP (w.alloc (.map #[] 0)) w.heap.size 0 (fun _=>none):=
 ⟨.map [],World.ownsMap_made _ _ _ _,isMap_empty,fun x=>⟨rfl,fun v h=>by cases h⟩⟩
theorem MapP.of_block{w w':World}{b n:Nat}{m:Int→Option Nat}(h:MapP w b n m)(e:w'.heap[b]? =w.heap[b]?):MapP w' b n m:=by
 obtain⟨D,⟨es,clock,hb,F,hs,hD⟩,r⟩:=h;exact⟨D,⟨es,clock,e.trans hb,F,hs,hD⟩,r⟩
theorem MapP.lt{w:World}{b n:Nat}{m:Int→Option Nat}(h:MapP w b n m):b<w.heap.size:=by
 obtain⟨D,h1,_⟩:=h;exact h1.lt
theorem MapP.below{w w':World}{b n:Nat}{m:Int→Option Nat}(h:MapP w b n m)(hb:Below w.heap.size w w'):MapP w' b n m:=h.of_block (hb.block b h.lt)
theorem MapP.isMap{w:World}{b n:Nat}{m:Int→Option Nat}(h:MapP w b n m):∃es clock,w.heap[b]? =some (.map es clock):=by
 obtain⟨D,⟨es,clock,hb,_⟩,_⟩:=h;exact⟨es,clock,hb⟩
def setP(m:Int→Option Nat)(k:Int)(v:Nat)(x:Int):Option Nat:=if k=x then some v else m x
theorem MapP.put{D:DataW Unit}{m:Int→Option Nat}{k:Int}{v:Nat}(h2:IsMap D)
 (h3:∀x,Maps.has D (.int .i64 x)=(m x).isSome∧∀v,m x=some v→D.atKey (.int .i64 x) (.lit (.int .i64 (-1)))= .lit (.int .i64 (v:Int))):
 IsMap (D.put (.int .i64 k) (.lit (.int .i64 (v:Int))))∧
 ∀x,Maps.has (D.put (.int .i64 k) (.lit (.int .i64 (v:Int)))) (.int .i64 x)=(setP m k v x).isSome∧∀u,setP m k v x=some u→(D.put (.int .i64 k) (.lit (.int .i64 (v:Int)))).atKey (.int .i64 x) (.lit (.int .i64 (-1)))= .lit (.int .i64 (u:Int)):=by
 refine⟨h2.put _ _,fun x=>?_⟩;by_cases e:k=x
 ·subst e;refine⟨?_,fun u hu=>?_⟩
  ·rw[has_put_same h2 (by trivial)];simp[setP]
  ·simp[setP]at hu;subst hu;exact atKey_put_same h2 (by trivial) _ _
 ·have hne:(Lit.int .i64 x)≠(Lit.int .i64 k):=by simp;exact fun h=>e h.symm
  refine⟨?_,fun u hu=>?_⟩
  ·rw[has_put_other hne];simp[setP,e];exact(h3 x).1
  ·simp[setP,e]at hu;rw[atKey_put_other hne];exact(h3 x).2 u hu
theorem zero70(w:World):(zeroValue 128).run Tryz.prog w= .ok (.pointer none) w:=by kernel_rfl
theorem MapP.look{w:World}{b n:Nat}{m:Int→Option Nat}{x:Int}(h:MapP w b n m)(hx:(Lit.int .i64 x).wf=true):
 (Instr.lookup 59 (.map (some b)) (.int .i64 x) false).run Tryz.prog w= .ok (.pointer ((m x).map fun p=>⟨p,0,none⟩)) w:=by
 obtain⟨D,hown,hD,hall⟩:=h;obtain⟨v,ps,hrun,hv⟩:=hown.lookup keyed2 Tryz.underlying59 (zero70 w) (zd:= .lit (.int .i64 (-1))) (zp:=[]) rfl (keyOf_int_mk Tryz.underlying2 hx);obtain⟨h1,h2⟩:=hall x;rw[hrun];cases hm:m x with
 |none=>
  have:Maps.has D (.int .i64 x)=false:=by rw[h1,hm];rfl
  rw[atKey_of_not_has this]at hv;rw[ptrElem_inv hv];rfl
 |some p=>
  rw[h2 p hm]at hv;rw[ptrElem_inv hv,if_neg (by omega)];simp
theorem Rises.less{ids:Nat→Int}{n m:Nat}(h:Rises ids n)(hm:m≤n):Rises ids m:=fun i j hij hj=>h i j hij (by omega)
theorem findI_succ{ids:Nat→Int}{k:Nat}(h:Rises ids (k+1))(x:Int):findI ids (k+1) x=if ids k=x then some k else findI ids k x:=by
 split
 ·rename_i e;subst e;exact findI_eq h (Nat.lt_succ_self k)
 ·rename_i e;cases e1:findI ids k x with
  |none=>
   cases e2:findI ids (k+1) x with
   |none=>rfl
   |some j=>
    obtain⟨j1,j2⟩:=findI_some e2;by_cases ej:j=k
    ·subst ej;exact absurd j2 e
    ·exact absurd j2 (findI_none e1 j (by omega))
  |some j=>
   obtain⟨j1,j2⟩:=findI_some e1;rw[←j2];exact findI_eq h (by omega)
structure Nodes(w:World)(B c n:Nat)(ids:Nat→Int)(ob off:Nat)(nb:Nat→Nat)(kv:Nat→Value)(K:Nat→List Int):Prop where
 map:MapP w c n (fun x=>(findI ids n x).map nb)
 blk:∀i,i<n→Blk w (nb i) (.cells #[.pointer (some ⟨ob,off+i*10,none⟩),kv i] 127)
 inj:∀i j,i<n→j<n→nb i=nb j→i=j
 own:∀i,i<n→OwnI w B (kv i) (K i)
 apart:∀i j,i<n→j<n→i≠j→(kv i).ownBlock=none∨(kv i).ownBlock≠(kv j).ownBlock
 low:∀i,i<n→B≤nb i
 lowc:B≤c
theorem own_block{w:World}{B:Nat}{v:Value}{l:List Int}(h:OwnI w B v l){g:Nat}(e:v.ownBlock=some g):∃cur,w.heap[g]? =some (.cells cur 2):=by
 rcases h.2 with⟨rfl,_⟩|⟨g',cap,cur,rfl,_,hb,_⟩
 ·cases e
 ·simp only[Value.ownBlock,Option.some.injEq]at e;subst e;exact⟨cur,hb⟩
theorem own_ne{w:World}{B:Nat}{v:Value}{l:List Int}(h:OwnI w B v l){g:Nat}{cs:Array Value}{t:Nat}(hg:Blk w g (.cells cs t))(ht:t≠2):some g≠v.ownBlock:=fun e=>by
 obtain⟨cur,hb⟩:=own_block h e.symm;unfold Blk at hg;rw[hg]at hb;simp only[Option.some.injEq,Obj.cells.injEq]at hb;exact ht hb.2.1
theorem own_nmap{w:World}{B:Nat}{v:Value}{l:List Int}(h:OwnI w B v l){g n:Nat}{m:Int→Option Nat}(hg:MapP w g n m):some g≠v.ownBlock:=fun e=>by
 obtain⟨cur,hb⟩:=own_block h e.symm;obtain⟨es,clock,hm⟩:=hg.isMap;rw[hm]at hb;cases hb
theorem Nodes.below{w w':World}{B c n:Nat}{ids:Nat→Int}{ob off:Nat}{nb:Nat→Nat}{kv:Nat→Value}{K:Nat→List Int}(h:Nodes w B c n ids ob off nb kv K)(hb:Below w.heap.size w w'):Nodes w' B c n ids ob off nb kv K:=
 ⟨h.map.below hb,fun i hi=>(h.blk i hi).below hb,h.inj,fun i hi=>World.ownsRow.kept (h.own i hi) (row:=none) ⟨hb.os,hb.tape,hb.output,hb.size,fun k hk _=>hb.block k hk⟩ (by
   cases e:(kv i).ownBlock with
   |none=>exact .inl rfl
   |some g=>exact .inr (by simp)),h.apart,h.low,h.lowc⟩
theorem Nodes.step{W W':World}{B c n:Nat}{ids:Nat→Int}{ob off:Nat}{nb:Nat→Nat}{kv:Nat→Value}{K:Nat→List Int}(H:Nodes W B c n ids ob off nb kv K){u:Nat}(hu:u<n){v':Value}{x:Int}
 (ho:OwnI W' B v' (K u++[x]))(hgr:W.grownBy W' (kv u).ownBlock)(hv:v'.ownBlock=(kv u).ownBlock∨v'.ownBlock=some W.heap.size):
 Nodes (W'.setCell ⟨nb u,1,none⟩ v') B c n ids ob off nb (fun j=>if j=u then v' else kv j) (fun j=>if j=u then K u++[x]else K j):=by
 have bk:∀i,i<n→Blk W' (nb i) (.cells #[.pointer (some ⟨ob,off+i*10,none⟩),kv i] 127):=fun i hi=>(hgr.block (nb i) (H.blk i hi).lt (own_ne (H.own u hu) (H.blk i hi) (by omega))).trans (H.blk i hi);have mk:MapP W' c n (fun x=>(findI ids n x).map nb):=H.map.of_block (hgr.block c H.map.lt (own_nmap (H.own u hu) H.map));have cne:c≠nb u:=fun e=>by
  obtain⟨es,clock,hm⟩:=H.map.isMap;have:=H.blk u hu;unfold Blk at this;rw[←e,hm]at this;cases this
 have gs:W'.grownBy (W'.setCell ⟨nb u,1,none⟩ v') (some (nb u)):=⟨rfl,rfl,rfl,by rw[nblk_setCell];exact Nat.le_refl _,fun j hj hne=>blk_setCell_other _ _ _ _ (by dsimp only;intro e;exact hne (by rw[e]))⟩;have set:∀{v:Value}{X:List Int},OwnI W' B v X→OwnI (W'.setCell ⟨nb u,1,none⟩ v') B v X:=fun{v X} hX=>
  World.ownsRow.kept hX gs (.inr (fun e=>own_ne hX (bk u hu) (by omega) e.symm))
 refine⟨mk.of_block (blk_setCell_other _ _ _ _ cne),fun i hi=>?_,H.inj,fun i hi=>?_,fun i j hi hj hne=>?_,H.low,H.lowc⟩
 ·by_cases e:i=u
  ·subst e;rw[if_pos rfl];have:=(bk i hi).setAt (i:=1) v';simpa using this
  ·rw[if_neg e];exact(bk i hi).other (fun e'=>e (H.inj i u hi hu e'.symm)) v'
 ·by_cases e:i=u
  ·subst e;rw[if_pos rfl,if_pos rfl];exact set ho
  ·rw[if_neg e,if_neg e];exact set (World.ownsRow.kept (H.own i hi) hgr (H.apart i u hi hu e))
 ·have lt:∀j,j<n→(kv j).ownBlock=none∨(kv j).ownBlock≠some W.heap.size:=fun j hj=> .inr fun e=>by have:=(World.ownsRow.lt (H.own j hj) _ e).2;omega
  by_cases e:i=u
  ·subst e;rw[if_pos rfl,if_neg (fun e=>hne e.symm)];rcases hv with hv|hv
   ·rw[hv];exact H.apart _ _ hi hj hne
   ·rw[hv];exact .inr (fun e=>by have:=(World.ownsRow.lt (H.own j hj) _ e.symm).2;omega)
  ·rw[if_neg e];by_cases e':j=u
   ·subst e';rw[if_pos rfl];rcases hv with hv|hv
    ·rw[hv];exact H.apart _ _ hi hj hne
    ·rw[hv];exact lt i hi
   ·rw[if_neg e'];exact H.apart _ _ hi hj hne
def kidsTo(ids ups:Nat→Int)(q i:Nat):List Int:=((List.range q).filter (fun j=>ups j==ids i)).map ids
theorem kidsTo_yes{ids ups:Nat→Int}{q i:Nat}(h:ups q=ids i):kidsTo ids ups (q+1) i=kidsTo ids ups q i++[ids q]:=by
 simp[kidsTo,List.range_succ,h]
theorem kidsTo_no{ids ups:Nat→Int}{q i:Nat}(h:ups q≠ids i):kidsTo ids ups (q+1) i=kidsTo ids ups q i:=by
 simp[kidsTo,List.range_succ,h]
theorem kidsTo_len(ids ups:Nat→Int)(q i:Nat):(kidsTo ids ups q i).length≤q:=by
 unfold kidsTo;rw[List.length_map];exact Nat.le_trans (List.length_filter_le _ _) (by simp)
theorem MapP.update{w:World}{b n:Nat}{m:Int→Option Nat}(h:MapP w b n m)(hn:n<maxLen)(kx:Int)(p:Nat)(wk:(Lit.int .i64 kx).wf=true):
 ∃w',(Instr.mapUpdate 59 (.map (some b)) (.int .i64 kx) (.pointer (some ⟨p,0,none⟩))).run Tryz.prog w= .ok () w'∧MapP w' b (n+1) (setP m kx p)∧w.grownBy w' (some b):=by
 obtain⟨D,hown,hD,hall⟩:=h;obtain⟨w',hrun,r1,r2⟩:=hown.update keyed2 Tryz.underlying59 hn (keyOf_int_mk Tryz.underlying2 wk) (val:= .pointer (some ⟨p,0,none⟩)) (d:= .lit (.int .i64 (p:Int))) (ps:=[]) rfl;have hp:=MapP.put (k:=kx) (v:=p) hD hall;exact⟨w',hrun,⟨_,r1,hp.1,hp.2⟩,r2⟩
theorem below_drew{w w':World}(h:Below w.heap.size w w'):Below w.heap.size w w'.drew:=below_drewN h 1
theorem below_grown{B:Nat}{w w':World}{row:Option Nat}(h:w.grownBy w' row)(hB:B≤w.heap.size)(hr:∀j,row=some j→B≤j):Below B w w':=
 ⟨h.os,h.tape,h.output,h.size,fun k hk=>h.block k (by omega) (fun e=>by have:=hr k e.symm;omega)⟩
theorem step_append_int{ops:Array Oper}{o:Oper}{a:Act}{w:World}{K:Act→World→Prop}{Q:Exit→Act→World→Prop}{E:Prop}(hgd:o.guard=none)(s x:Operand)
 (ho:o.op= .call {callee:= .builtin .append,args:=#[s,x],argTypes:=#[34,34]})
 (B:Nat)(v:Value)(l:List Int)(hs:a.eval s=v)(hown:OwnI w B v l)(ad:Option Addr)(c:Nat)(r:Int)(hx:a.eval x= .slice ad 1 c)(hc:NumL w ad [r])
 (hm:l.length≤100000)(hB:B≤w.heap.size)
 (h:∀a' c' w',OwnI w' B (.slice a' (l.length+1) c') (l++[r])→w.grownBy w' v.ownBlock→((Value.slice a' (l.length+1) c').ownBlock=v.ownBlock∨(Value.slice a' (l.length+1) c').ownBlock=some w.heap.size)→K (a.put o.dst (.slice a' (l.length+1) c')) w'):
 if Region.wanted o (yielded ops a.tmps)=true then Oper.wp Tryz.prog o a w K Q else E:=by
 have hw:Region.wanted o (yielded ops a.tmps)=true:=by simp[Region.wanted,hgd]
 rw[if_pos hw];refine wp_append_gen Tryz.underlying34 Tryz.info2 rfl (by omega) w s x ho B v l.length _ hs hown ad 1 c [.int .i64 r] hx rfl hc (by simp[Value.oneCell']) (by omega) (by omega) hB fun a' c' w' h2 h3 h4=>?_;refine h a' c' w' ?_ h3 h4;unfold OwnI;rw[List.length_append,List.map_append];exact h2
theorem Nodes.same{w:World}{B c n:Nat}{ids:Nat→Int}{ob off:Nat}{nb:Nat→Nat}{kv:Nat→Value}{K K':Nat→List Int}(h:Nodes w B c n ids ob off nb kv K)(e:∀i,i<n→K' i=K i):Nodes w B c n ids ob off nb kv K':=
 ⟨h.map,h.blk,h.inj,fun i hi=>by rw[e i hi];exact h.own i hi,h.apart,h.low,h.lowc⟩
theorem Nodes.grow{wr W w1:World}{B c k:Nat}{ids:Nat→Int}{ob off:Nat}{nb:Nat→Nat}(H:Nodes wr B c k ids ob off nb (fun _=> .slice none 0 0) (fun _=>[]))(hr:Rises ids (k+1))(hb:Below wr.heap.size wr W)
 (hA:Blk W wr.heap.size (.cells #[.pointer (some ⟨ob,off+k*10,none⟩),.slice none 0 0] 127))(hM:MapP w1 c (k+1) (setP (fun x=>(findI ids k x).map nb) (ids k) wr.heap.size))(hG:W.grownBy w1 (some c)):
 Nodes w1 B c (k+1) ids ob off (fun i=>if i=k then wr.heap.size else nb i) (fun _=> .slice none 0 0) (fun _=>[]):=by
 have hc:c<wr.heap.size:=H.map.lt;have cne:∀i,i<k→c≠nb i:=fun i hi e=>by
  obtain⟨es,clock,hm⟩:=H.map.isMap;have:=H.blk i hi;unfold Blk at this;rw[←e,hm]at this;cases this
 refine⟨?_,fun i hi=>?_,fun i j hi hj=>?_,fun i hi=>OwnI.nil _ _,fun i j _ _ _=> .inl rfl,fun i hi=>?_,H.lowc⟩
 ·have e:(fun x=>(findI ids (k+1) x).map (fun i=>if i=k then wr.heap.size else nb i))=setP (fun x=>(findI ids k x).map nb) (ids k) wr.heap.size:=by
   funext x;rw[findI_succ hr];unfold setP;split
   ·simp
   ·cases e1:findI ids k x with
    |none=>simp[e1]
    |some j=>
     have:=(findI_some e1).1;simp only[Option.map_some,e1];rw[if_neg (by omega)]
  rw[e];exact hM
 ·by_cases e:i=k
  ·subst e;rw[if_pos rfl];exact(hG.block _ hA.lt (by simp;omega)).trans hA
  ·rw[if_neg e];have h1:=(H.blk i (by omega)).below hb;exact(hG.block _ h1.lt (by simp;exact fun e=>cne i (by omega) e.symm)).trans h1
 ·have lt:∀i,i<k→nb i<wr.heap.size:=fun i hi=>(H.blk i hi).lt;by_cases e:i=k
  ·by_cases e':j=k
   ·omega
   ·rw[if_pos e,if_neg e'];have:=lt j (by omega);omega
  ·by_cases e':j=k
   ·rw[if_neg e,if_pos e'];have:=lt i (by omega);omega
   ·rw[if_neg e,if_neg e'];exact H.inj i j (by omega) (by omega)
 ·split
  ·have:=H.lowc;omega
  ·exact H.low i (by omega)
theorem nodesOf_any(ob off n cap:Nat)(O:Nat→ObjV)(w:World)(hn:n≤271)(hO:ObjsAt w (some ⟨ob,off,none⟩) n O)(hr:Rises (fun i=>(O i).id) n)
 (hw:∀i,i<n→(Lit.int .i64 (O i).id).wf=true∧(Lit.int .i64 (O i).up).wf=true):
 Calls Tryz.prog 72 #[.slice (some ⟨ob,off,none⟩) n cap] w fun e w'=>∃c nb kv,e= .returned (.map (some c))∧Nodes w' w.heap.size c n (fun i=>(O i).id) ob off nb kv (kidsTo (fun i=>(O i).id) (fun i=>(O i).up) n)∧Below w.heap.size w w':=by
 have hmm:=@run_makeMap Tryz.prog;have HO:=hid hO;have HR:=hid hr;have HW:=hid hw;clear hO hr hw;have M0:=hid (MapP.made w);have hb0:=(Below.refl _ w).alloc (Nat.le_refl _) (.map #[] 0);go_enter Tryz.func72,Tryz.ntmps72
 go_wp2;go_loopw [11] (fun i wr=>∃(k:Nat) (nb:Nat→Nat),k≤n∧i= .int .i64 k∧Hid (Nodes wr w.heap.size w.heap.size k (fun i=>(O i).id) ob off nb (fun _=> .slice none 0 0) (fun _=>[]))∧Below w.heap.size w wr) (fun i _=>n-(intOf i).toNat)
 case atStart=>
  refine⟨0,fun _=>0,Nat.zero_le _,rfl,hid ⟨?_,fun i hi=>by omega,fun i j hi=>by omega,fun i hi=>by omega,fun i j hi=>by omega,fun i hi=>by omega,Nat.le_refl _⟩,hb0⟩;exact M0.out
 case round=>
  obtain⟨k,nb,hk,rfl,HN,hB⟩:=hrel;clear M0 hb0 hmm;by_cases hlt:k<n
  ·obtain⟨_,_,ea,hlt0,hcc⟩:=HO.out.below hB (by omega);cases ea;have q0:=(hcc k hlt).1.c0;have i1:(k:Int)<(n:Int):=(by omega);have i0:(0:Int)≤(k:Int):=(by omega);have W0:=hid (HW.out k hlt).1;clear hcc;go_wp2;have kn:k<maxLen:=(by unfold maxLen;omega);have b1:Below wr.heap.size wr ((wr.alloc (.cells #[.pointer (some ⟨ob,off+k*10,none⟩),.slice none 0 0] 127)).drew):=below_drew ((Below.refl _ wr).alloc (Nat.le_refl _) _);have A1:Blk ((wr.alloc (.cells #[.pointer (some ⟨ob,off+k*10,none⟩),.slice none 0 0] 127)).drew) wr.heap.size (.cells #[.pointer (some ⟨ob,off+k*10,none⟩),.slice none 0 0] 127):=Blk.new wr _;obtain⟨w1,hrun,hm1,hg1⟩:=(HN.out.map.below b1).update kn (O k).id wr.heap.size W0.out;have HM:=hid hm1;have HG:=hid hg1;have HB:=hid b1;have HA:=hid A1;clear hm1 hg1 b1 A1;go_region;have NN:=hid (HN.out.grow (HR.out.less (by omega)) HB.out HA.out HM.out HG.out);have B1:Below w.heap.size w w1:=(then_ hB HB.out).trans (below_grown HG.out (then_ hB HB.out).size (fun j hj=>by cases hj;exact Nat.le_refl _));clear HM HG HB HA hrun HN q0;go_wp2;exact⟨⟨k+1,_,by omega,by go_num,NN,B1⟩,by simp[intOf];omega⟩
  ·have e:k=n:=(by omega);subst e;have i1:¬(k:Int)<(k:Int):=(by omega);go_wp2;go_loopw [28] (fun i wr=>∃(q:Nat) (kv:Nat→Value),q≤k∧i= .int .i64 q∧Hid (Nodes wr w.heap.size w.heap.size k (fun i=>(O i).id) ob off nb kv (kidsTo (fun i=>(O i).id) (fun i=>(O i).up) q))∧Below w.heap.size w wr) (fun i _=>k-(intOf i).toNat)
   case atStart=>exact⟨0,_,Nat.zero_le _,rfl,HN,hB⟩
   case round=>
    obtain⟨q,kv,hq,rfl,HN,hB⟩:=hrel;by_cases hlt:q<k
    ·obtain⟨_,_,ea,hlt0,hcc⟩:=HO.out.below hB (by omega);cases ea;obtain⟨q0,q1,q2,q3,q4,q5,q6,q7,q8,q9⟩:=(hcc q hlt).1;simp only[CatL.val,IntL.val,StrL.val]at q4 q6 q7 q9;have i1:(q:Int)<(k:Int):=(by omega);have b1:Below wr.heap.size wr (wr.alloc (.cells #[.int .i64 (O q).id,.int .i64 (O q).kind,.int .i64 (O q).up,.int .i64 (O q).b1,.slice (O q).c1.a (O q).c1.n (O q).c1.k,.string (O q).data,.slice (O q).items.a (O q).items.n (O q).items.k,.slice (O q).own.a (O q).own.n (O q).own.k,.int .i64 (O q).b2,.slice (O q).c2.a (O q).c2.n (O q).c2.k] 42)):=(Below.refl _ wr).alloc (Nat.le_refl _) _;have A1:=Blk.new wr (.cells #[.int .i64 (O q).id,.int .i64 (O q).kind,.int .i64 (O q).up,.int .i64 (O q).b1,.slice (O q).c1.a (O q).c1.n (O q).c1.k,.string (O q).data,.slice (O q).items.a (O q).items.n (O q).items.k,.slice (O q).own.a (O q).own.n (O q).own.k,.int .i64 (O q).b2,.slice (O q).c2.a (O q).c2.n (O q).c2.k] 42);have x0:_=some (Value.int .i64 (O q).id):=A1.c0 0 rfl;have x2:_=some (Value.int .i64 (O q).up):=A1.c0 2 rfl;have N1:=hid (HN.out.below b1);have B1:=then_ hB b1;have LK:=N1.out.map.look (x:=(O q).up) (HW.out q hlt).2;clear hcc hlt0;cases hf:findI (fun i=>(O i).id) k (O q).up with
     |none=>
      have NK:Hid (∀i,i<k→kidsTo (fun i=>(O i).id) (fun i=>(O i).up) (q+1) i=kidsTo (fun i=>(O i).id) (fun i=>(O i).up) q i):=hid (fun i hi=>kidsTo_no (fun e=>findI_none hf i hi e.symm));simp only[hf,Option.map_none]at LK;clear hf;go_wp2;exact⟨⟨q+1,kv,by omega,by go_num,hid (N1.out.same NK.out),B1⟩,by simp[intOf];omega⟩
     |some u=>
      obtain⟨hu,eu⟩:=findI_some hf;have EU:=hid eu;simp only[hf,Option.map_some]at LK;clear hf eu;have A2:=N1.out.blk u hu;have O2:=N1.out.own u hu;have hlen:=kidsTo_len (fun i=>(O i).id) (fun i=>(O i).up) q u;go_wp2;generalize wr.alloc (.cells #[.int .i64 (O q).id,.int .i64 (O q).kind,.int .i64 (O q).up,.int .i64 (O q).b1,.slice (O q).c1.a (O q).c1.n (O q).c1.k,.string (O q).data,.slice (O q).items.a (O q).items.n (O q).items.k,.slice (O q).own.a (O q).own.n (O q).own.k,.int .i64 (O q).b2,.slice (O q).c2.a (O q).c2.n (O q).c2.k] 42)=W at *;have y1:_=some (kv u):=A2.c0 1 rfl;have bl:Below W.heap.size W ((W.alloc (.cells #[.int .i64 (O q).id] 2)).drew):=below_drew ((Below.refl _ W).alloc (Nat.le_refl _) _);have N2:=hid (N1.out.below bl);have l1:NumL ((W.alloc (.cells #[.int .i64 (O q).id] 2)).drew) (some ⟨W.heap.size,0,none⟩) [(O q).id]:=NumL.one (O q).id;have hB2:=then_ B1 bl;have OA:=hid (N2.out.own u hu);have HL:=hid l1;have lm:(kidsTo (fun i=>(O i).id) (fun i=>(O i).up) q u).length≤100000:=(by omega);have s1:=hB2.size;have A3:Hid (∀w3:World,((W.alloc (.cells #[.int .i64 (O q).id] 2)).drew).grownBy w3 (kv u).ownBlock→Blk w3 (nb u) (.cells #[.pointer (some ⟨ob,off+u*10,none⟩),kv u] 127)):=hid (fun w3 g3=>(g3.block (nb u) (N2.out.blk u hu).lt (own_ne (N2.out.own u hu) (N2.out.blk u hu) (by omega))).trans (N2.out.blk u hu));have FIN:Hid (∀(a3:Option Addr) (c3:Nat) (w3:World),OwnI w3 w.heap.size (.slice a3 ((kidsTo (fun i=>(O i).id) (fun i=>(O i).up) q u).length+1) c3) (kidsTo (fun i=>(O i).id) (fun i=>(O i).up) q u++[(O q).id])→((W.alloc (.cells #[.int .i64 (O q).id] 2)).drew).grownBy w3 (kv u).ownBlock→((Value.slice a3 ((kidsTo (fun i=>(O i).id) (fun i=>(O i).up) q u).length+1) c3).ownBlock=(kv u).ownBlock∨(Value.slice a3 ((kidsTo (fun i=>(O i).id) (fun i=>(O i).up) q u).length+1) c3).ownBlock=some ((W.alloc (.cells #[.int .i64 (O q).id] 2)).drew).heap.size)→
       ∃kv',Hid (Nodes (w3.setCell ⟨nb u,1,none⟩ (.slice a3 ((kidsTo (fun i=>(O i).id) (fun i=>(O i).up) q u).length+1) c3)) w.heap.size w.heap.size k (fun i=>(O i).id) ob off nb kv' (kidsTo (fun i=>(O i).id) (fun i=>(O i).up) (q+1)))∧Below w.heap.size w (w3.setCell ⟨nb u,1,none⟩ (.slice a3 ((kidsTo (fun i=>(O i).id) (fun i=>(O i).up) q u).length+1) c3))):=hid (fun a3 c3 w3 ho g3 v3=>by
       refine⟨_,hid ((N2.out.step hu ho g3 v3).same (fun i hi=>?_)),?_⟩
       ·split
        ·rename_i e;subst e;exact kidsTo_yes EU.out.symm
        ·rename_i e;exact kidsTo_no (fun e'=>e (HR.out.inj hi hu (by rw[←e'];exact EU.out.symm)))
       ·exact(hB2.trans (below_grown g3 hB2.size (fun j hj=>(World.ownsRow.lt (N2.out.own u hu) j hj).1))).setCell (N1.out.low u hu) _)
      have y1a:(W.alloc (.cells #[.int .i64 (O q).id] 2)).cell? ⟨nb u,1,none⟩=some (kv u):=(((Below.refl _ W).alloc (Nat.le_refl _) _).cell (p:=⟨nb u,1,none⟩) A2.lt).trans y1;have un:¬nb u=W.heap.size:=(by have:=A2.lt;omega);have pn:¬wr.heap.size=W.heap.size:=(by have:=A1.lt;omega);clear l1 bl b1 q0 q1 q2 q3 q4 q5 q6 q7 q8 q9 hlen A1 A2 O2 LK hB2;go_region_law((refine step_append_int (by rfl) _ _ (by rfl) w.heap.size (kv u) (kidsTo (fun i=>(O i).id) (fun i=>(O i).up) q u) (by rfl) OA.out _ 1 (O q).id (by rfl) HL.out lm s1 ?_;intro a3 c3 w3 O3 g3 v3;have Z:=hid (A3.out w3 g3);have z1:_=some (kv u):=Z.out.c0 1 rfl;have z2:=Z.out.warm 1;have O4:=hid O3;have G4:=hid g3;have V4:=hid v3;clear O3 g3 v3))
      all_goals(
       obtain⟨kv',nn,bb⟩:=FIN.out _ _ _ O4.out G4.out V4.out;clear FIN O4 G4 V4 Z z1 z2 A3 OA HL N2 N1 HN;go_wp2;exact⟨⟨q+1,kv',by omega,by go_num,nn,bb⟩,by simp[intOf];omega⟩)
    ·have e:q=k:=(by omega);subst e;have i1:¬(q:Int)<(q:Int):=(by omega);go_wp2;go_ret;exact⟨_,rfl,⟨_,_,HN.out⟩,hB⟩
end Go.Proofs.YtbacmamplkdgaaaGreatDoor
