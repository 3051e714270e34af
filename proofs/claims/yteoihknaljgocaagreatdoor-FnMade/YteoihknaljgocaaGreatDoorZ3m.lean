import Derived.Maps.AppendAt
import Derived.Laws.IdiomStrings
import Derived.Deep.RegionLaw
import Derived.Test.YteoihknaljgocaaGreatDoorZ2m
set_option maxRecDepth 100000
namespace Go.Proofs.YteoihknaljgocaaGreatDoor
open Go Go.RowKit Go.Deep Go.Maps Go.Proofs.Tryz
open Go.WideShapes (add_plain)
def Bp(w:World)(ad:Option Addr)(n:Nat)(cs:List Value):Prop:=
 0<n->∃b off,ad=some ⟨b,off,none⟩/\b<w.heap.size/\∀j u,cs[j]? =some u->w.cell? ⟨b,off+j,none⟩=some u
theorem Bp.below{w w':World}{ad:Option Addr}{n:Nat}{cs:List Value}(h:Bp w ad n cs)(hb:Below w w w'):Bp w' ad n cs:=fun hn=>by
 obtain⟨b,off,e,hlt,hc⟩:=h hn;exact⟨b,off,e,Nat.lt_of_lt_of_le hlt hb.size,fun j u hu=>(hb.cell (p:=⟨b,off+j,none⟩) hlt).trans (hc j u hu)⟩
theorem Bp.own{w:World}{B e size n c:Nat}{a:Option Addr}{cs:List Value}(h:w.ownsRow B e size (.slice a n c) n cs):Bp w a n cs:=fun hn=>by
 obtain⟨gb,cap,hv,_,hlt⟩:=World.ownsRow.form h hn;simp only[Value.slice.injEq]at hv;obtain⟨rfl,_,_⟩:=hv;have hc:=World.ownsRow.cells h (g:=gb) rfl;refine⟨gb,0,rfl,hlt,fun j u hu=>?_⟩;have t:=hc j u hu;rw[add_plain]at t;exact t
theorem Df{w:World}{B e size n:Nat}{v:Value}{cs:List Value}(h:w.ownsRow B e size v n cs):∃a c,v= .slice a n c:=by
 rcases h.2 with⟨rfl,rfl⟩|⟨gb,cap,cur,rfl,_⟩
 ·exact⟨_,_,rfl⟩
 ·exact⟨_,_,rfl⟩
section
variable {t e size bytes:Nat}{z:Value} (hT:prog.underlying t=some (.slice e)) (hI:(prog.info? e).map (fun i=>(i.zero,i.size,i.bytes))=some (some z,size,bytes)) (hzs:z.cells.size=size) (hsz:0<size)
include hT hI hzs hsz
theorem G8(w:World)(ty B:Nat)(v:Value)(n:Nat)(cs:List Value)(hown:w.ownsRow B e size v n cs)(ad:Option Addr)(m c:Nat)(cs':List Value)(hl:cs'.length=m*size)(hc:Bp w ad m cs')(h1:∀u∈cs',u.oneCell'=true)
 (hm:n+m<=4194304)(hby:(n+m)*bytes<=140737488355328)(hB:B<=w.heap.size):
 ∃a' c' w',(Builtin.append_ #[t,t] ty #[v,.slice ad m c]).run prog w= .ok (.slice a' (n+m) c') w'/\w'.ownsRow B e size (.slice a' (n+m) c') (n+m) (cs++cs')/\w.grownBy w' v.ownBlock/\
  ((Value.slice a' (n+m) c').ownBlock=v.ownBlock∨(Value.slice a' (n+m) c').ownBlock=some w):=by
 obtain⟨i0,hi,hz0,hz1,hz2⟩:=info_parts hI;have some':∀a:Addr,(∀j u,cs'[j]? =some u->w.cell? (a.add j)=some u)->∃a' c' w',(Builtin.append_ #[t,t] ty #[v,.slice (some a) m c]).run prog w= .ok (.slice a' (n+m) c') w'/\w'.ownsRow B e size (.slice a' (n+m) c') (n+m) (cs++cs')/\w.grownBy w' v.ownBlock/\
  ((Value.slice a' (n+m) c').ownBlock=v.ownBlock∨(Value.slice a' (n+m) c').ownBlock=some w):=fun a hnews=>by
  obtain⟨v',w',hr,h2,h3,_,h5⟩:=run_append_own_at (P:=prog) w B t ty e i0 _ size bytes hT hi hz0 hz1 hz2 hzs hsz v n cs hown a m c cs' hl hnews h1 (by unfold maxLen;omega) hby hB;obtain⟨a',c',rfl⟩:=Df h2;exact⟨a',c',w',hr,h2,h3,h5⟩
 by_cases h0:0<m
 ·obtain⟨b,off,rfl,_,hcc⟩:=hc h0;exact some' _ (fun j u hu=>by rw[add_plain];exact hcc j u hu)
 ·obtain rfl:m=0:=by omega
  have e0:cs'=[]:=List.eq_nil_of_length_eq_zero (by omega);subst e0;cases ad with
  |some a=>exact some' a (fun j u hu=>by simp at hu)
  |none=>
   obtain⟨a',c',rfl⟩:=Df hown;rw[List.append_nil];refine⟨a',c',w,?_,hown,⟨rfl,rfl,rfl,Nat.le_refl _,fun _ _ _=>rfl⟩,.inl rfl⟩;obtain⟨_,hx⟩:=hown;rcases hx with⟨hv,rfl⟩|⟨gb,cap,cur,hv,_,_,hnc,_⟩
   ·simp only[Value.slice.injEq]at hv;obtain⟨rfl,_,rfl⟩:=hv;simp[Builtin.append_,run_underlying hT,sizeOf,typeInfo,hi,Builtin.lenOf,Builtin.firstCells]
   ·simp only[Value.slice.injEq]at hv;obtain⟨rfl,_,rfl⟩:=hv;simp[Builtin.append_,run_underlying hT,sizeOf,typeInfo,hi,Builtin.lenOf,Builtin.firstCells,hnc,storeCells]
theorem Dw{o:Oper}{a:Act}{K:Act->World->Prop}{Q:Exit->Act->World->Prop}(w:World)(s x:Operand)
 (ho:o.op= .call {callee:= .builtin .append,args:=#[s,x],argTypes:=#[t,t]})
 (B:Nat)(v:Value)(n:Nat)(cs:List Value)(hs:a.eval s=v)(hown:w.ownsRow B e size v n cs)(ad:Option Addr)(m c:Nat)(cs':List Value)(hx:a.eval x= .slice ad m c)(hl:cs'.length=m*size)(hc:Bp w ad m cs')(h1:∀u∈cs',u.oneCell'=true)
 (hm:n+m<=4194304)(hby:(n+m)*bytes<=140737488355328)(hB:B<=w.heap.size)
 (h:∀a' c' w',w'.ownsRow B e size (.slice a' (n+m) c') (n+m) (cs++cs')->w.grownBy w' v.ownBlock->((Value.slice a' (n+m) c').ownBlock=v.ownBlock∨(Value.slice a' (n+m) c').ownBlock=some w)->K (a.put o.dst (.slice a' (n+m) c')) w'):o.wp prog a w K Q:=by
 obtain⟨a',c',w',hr,h2,h3,h4⟩:=G8 hT hI hzs hsz w o.type B v n cs hown ad m c cs' hl hc h1 hm hby hB;unfold Oper.wp execOp;simp only[ho,resolve,invoke,builtin,Sem.run_bind,Sem.run_pure,Result.andThen_ok,List.map_toArray,List.map_cons,List.map_nil,hs,hx,hr];exact h a' c' w' h2 h3 h4
end
def Ay(w:World)(B:Nat)(v:Value)(l:List Int):Prop:=w.ownsRow B 2 1 v l.length (l.map (Value.int .i64))
def DD(w:World)(ad:Option Addr)(l:List Int):Prop:=Bp w ad l.length (l.map (Value.int .i64))
theorem DD.below{w w':World}{ad:Option Addr}{l:List Int}(h:DD w ad l)(hb:Below w w w'):DD w' ad l:=Bp.below h hb
theorem Ay.lies{w:World}{B c:Nat}{a:Option Addr}{l:List Int}(h:Ay w B (.slice a l.length c) l):DD w a l:=Bp.own h
theorem Ay.nil(w:World)(B:Nat):Ay w B (.slice none 0 0) []:=World.ownsRow_nil _ _ _ _
theorem Ay.made(w:World)(B:Nat)(hb:B<=w.heap.size):Ay (w.alloc (.cells #[] 2)) B (.slice (w) 0 0) []:=World.ownsRow_made w #[] 0 hb (Nat.zero_le _) rfl
theorem Ay.alloc{w:World}{B:Nat}{v:Value}{l:List Int}(h:Ay w B v l)(o:Obj):Ay (w.alloc o) B v l:=World.ownsRow.alloc h o
def AV(l:List Int)(i:Nat):Int:=l.getD i 0
theorem DD.ints{w:World}{ad:Option Addr}{l:List Int}(h:DD w ad l):Be w ad l.length (AV l):=fun hn=>by
 obtain⟨b,off,e,hlt,hc⟩:=h hn;exact⟨b,off,e,hlt,fun i hi=>hc i _ (by simp[AV,hi])⟩
theorem Be.intL{w:World}{ad:Option Addr}{n:Nat}{h:Nat->Int}(hc:Be w ad n h):DD w ad ((List.range n).map h):=fun hn=>by
 have hn':0<n:=by simpa using hn
 obtain⟨b,off,e,hlt,hcc⟩:=hc hn';refine⟨b,off,e,hlt,fun j u hu=>?_⟩;by_cases hj:j<n
 ·simp[hj]at hu;rw[<-hu];exact hcc j hj
 ·simp[hj]at hu
theorem Eg{ops:Array Oper}{rest:List Oper}{o:Oper}{a:Act}{Q:Exit->Act->World->Prop}(w:World)(hgd:o.guard=none)(s x:Operand)
 (ho:o.op= .call {callee:= .builtin .append,args:=#[s,x],argTypes:=#[37,37]})
 (B:Nat)(v:Value)(l:List Int)(hs:a.eval s=v)(hown:Ay w B v l)(ad:Option Addr)(m c:Nat)(l':List Int)(hx:a.eval x= .slice ad m c)(hm':l'.length=m)(hc:DD w ad l')
 (hm:l.length+m<=4194304)(hB:B<=w.heap.size)
 (h:∀a' c' w',Ay w' B (.slice a' (l++l').length c') (l++l')->w.grownBy w' v.ownBlock->((Value.slice a' (l++l').length c').ownBlock=v.ownBlock∨(Value.slice a' (l++l').length c').ownBlock=some w)->wpList prog ops Q rest (a.put o.dst (.slice a' (l++l').length c')) w'):wpList prog ops Q (o::rest) a w:=by
 subst hm';refine wpList_plain hgd fun _ hK=>Dw underlying37 Tryz.info2 rfl (by omega) w s x ho B v l.length _ hs hown ad l'.length c _ hx (by simp) hc (fun u hu=>by obtain⟨y,_,rfl⟩:=List.mem_map.1 hu;rfl) hm (by omega) hB fun a' c' w' h2 h3 h4=>hK _ _ ?_;rw[<-List.map_append,<-List.length_append]at h2;rw[<-List.length_append]at h4 ⊢;exact h a' c' w' h2 h3 h4
theorem AZ{ops:Array Oper}{rest:List Oper}{o:Oper}{a:Act}{Q:Exit->Act->World->Prop}(w:World)(hgd:o.guard=none)(s x:Operand)
 (ho:o.op= .call {callee:= .builtin .append,args:=#[s,x],argTypes:=#[37,37]})
 (B:Nat)(v:Value)(l:List Int)(hs:a.eval s=v)(hown:Ay w B v l)(ad:Option Addr)(m c:Nat)(l':List Int)(hx:a.eval x= .slice ad m c)(hm':l'.length=m)(hc:DD w ad l')(R:List Int)(hR:R=l++l')
 (hm:R.length<=4194304)(hB:B<=w.heap.size)
 (h:∀a' c' w',Ay w' B (.slice a' R.length c') R->w.grownBy w' v.ownBlock->((Value.slice a' R.length c').ownBlock=v.ownBlock∨(Value.slice a' R.length c').ownBlock=some w)->wpList prog ops Q rest (a.put o.dst (.slice a' R.length c')) w'):wpList prog ops Q (o::rest) a w:=by
 subst hR;exact Eg w hgd s x ho B v l hs hown ad m c l' hx hm' hc (by rw[List.length_append]at hm;omega) hB h
theorem DD.take{w:World}{b off:Nat}{l:List Int}(h:DD w (some ⟨b,off,none⟩) l)(k:Nat):DD w (some ⟨b,off,none⟩) (l.take k):=fun hn=>by
 have hl:0<l.length:=by simp at hn;omega
 obtain⟨b',off',e,hlt,hc⟩:=h hl;cases e;refine⟨b,off,rfl,hlt,fun j u hu=>hc j u ?_⟩;rw[List.map_take,List.getElem?_take]at hu;split at hu
 ·exact hu
 ·cases hu
theorem DD.drop{w:World}{b off:Nat}{l:List Int}(h:DD w (some ⟨b,off,none⟩) l)(k:Nat):DD w (some ⟨b,off+k,none⟩) (l.drop k):=fun hn=>by
 have hl:0<l.length:=by simp at hn;omega
 obtain⟨b',off',e,hlt,hc⟩:=h hl;cases e;refine⟨b,off+k,rfl,hlt,fun j u hu=>?_⟩;rw[List.map_drop,List.getElem?_drop]at hu;have:=hc (k+j) u hu;rw[Nat.add_assoc];exact this
theorem DD.one{w:World}(x:Int):DD (w.alloc (.cells #[.int .i64 x] 2)) (some ⟨w,0,none⟩) [x]:=fun _=>
 ⟨w,0,rfl,by simp,fun j u hu=>by
   cases j with
   |zero=>simp at hu;subst hu;simp
   |succ j=>simp at hu⟩
theorem DD.none(w:World)(ad:Option Addr):DD w ad []:=fun h=>by simp at h
variable {l:List Ae}{w w':World}{B B' c:Nat}{v:Value}{row:Option Nat}{a:Option Addr}
def Ae.cs(v:Ae):List Value:=[.int .i64 v.id,.int .i64 v.b1,v.c1.val,.int .i64 v.b2,v.c2.val,v.own.val,.int .i64 v.made]
def Ce(l:List Ae):List Value:=(l.map Ae.cs).flatten
theorem UI(l:List Ae):(Ce l).length=l.length*7:=by
 induction l with
 |nil=>rfl
 |cons x r ih=>simp[Ce,Ae.cs]at *;omega
theorem Oo(l r:List Ae):Ce (l++r)=Ce l++Ce r:=by simp[Ce]
theorem Tv:∀u∈Ce l,u.oneCell'=true:=fun u hu=>by
 simp only[Ce,List.mem_flatten,List.mem_map]at hu;obtain⟨_,⟨x,_,rfl⟩,h⟩:=hu;simp only[Ae.cs,List.mem_cons,List.not_mem_nil,or_false]at h;rcases h with rfl|rfl|rfl|rfl|rfl|rfl|rfl<;>rfl
theorem UG:∀{i:Nat} (hi:i<l.length),(Ce l)[i*7]? =some (.int .i64 (l[i]).id)/\(Ce l)[i*7+1]? =some (.int .i64 (l[i]).b1)/\(Ce l)[i*7+2]? =some ((l[i]).c1.val)/\(Ce l)[i*7+3]? =some (.int .i64 (l[i]).b2)/\(Ce l)[i*7+4]? =some ((l[i]).c2.val)/\(Ce l)[i*7+5]? =some ((l[i]).own.val)/\(Ce l)[i*7+6]? =some (.int .i64 (l[i]).made):=by
 induction l with
 |nil=>intro i hi;simp at hi
 |cons x r ih=>
  intro i hi;have e:Ce (x::r)=Value.int .i64 x.id::Value.int .i64 x.b1::x.c1.val::Value.int .i64 x.b2::x.c2.val::x.own.val::Value.int .i64 x.made::Ce r:=by simp[Ce,Ae.cs]
  rw[e];cases i with
  |zero=>simp
  |succ i=>
   have h:=ih (i:=i) (by simpa using hi);have e1:(i+1)*7=i*7+1+1+1+1+1+1+1:=(by omega);rw[e1];simpa using h
def Dq(w:World)(B:Nat)(v:Value)(l:List Ae):Prop:=w.ownsRow B 39 7 v l.length (Ce l)
def Ae.z:Ae:=⟨0,0,⟨none,0,0,fun _=>0,fun _=>0⟩,0,⟨none,0,0,fun _=>0,fun _=>0⟩,⟨none,0,0,fun _=>0⟩,0⟩
def Ao(l:List Ae)(i:Nat):Ae:=l.getD i Ae.z
theorem Dq.nil(w:World)(B:Nat):Dq w B (.slice none 0 0) []:=World.ownsRow_nil _ _ _ _
theorem Dq.made(w:World)(B:Nat)(hb:B<=w.heap.size):Dq (w.alloc (.cells #[] 39)) B (.slice (w.heap.size) 0 0) []:=World.ownsRow_made w #[] 0 hb (Nat.zero_le _) rfl
theorem Dq.shape(h:Dq w B v l):∃a c,v= .slice a l.length c:=Df h
theorem Dq.grown(h:Dq w B v l)(hg:w.grownBy w' row)(hne:v.ownBlock=none∨v.ownBlock≠row):Dq w' B v l:=World.ownsRow.kept h hg hne
theorem Dq.below(h:Dq w B v l)(hb:Below w.heap.size w w'):Dq w' B v l:=World.ownsRow.kept (row:=none) h ⟨hb.os,hb.tape,hb.output,hb.size,fun k hk _=>hb.block k hk⟩ (by cases v.ownBlock<;>simp)
theorem Dq.base(h:Dq w B v l)(hB:B'<=B):Dq w B' v l:=by
 refine⟨h.1,?_⟩;rcases h.2 with hn|⟨g,cap,cur,hv,hbg,rest⟩
 ·exact .inl hn
 ·exact .inr ⟨g,cap,cur,hv,Nat.le_trans hB hbg,rest⟩
theorem Dq.lies(h:Dq w B (.slice a l.length c) l)(hat:∀x∈l,x.at w):Iv w a l.length (Ao l):=fun hn=>by
 obtain⟨b,off,e,hlt,hc⟩:=Bp.own h hn;refine⟨b,off,e,hlt,fun i hi=>?_⟩;have g:=UG hi;have e1:Ao l i=l[i]:=by simp[Ao,hi]
 rw[e1];exact⟨⟨by have:=hc _ _ (g.1);exact this,by have:=hc _ _ (g.2.1);rw[<-Nat.add_assoc]at this;exact this,by have:=hc _ _ (g.2.2.1);rw[<-Nat.add_assoc]at this;exact this,by have:=hc _ _ (g.2.2.2.1);rw[<-Nat.add_assoc]at this;exact this,by have:=hc _ _ (g.2.2.2.2.1);rw[<-Nat.add_assoc]at this;exact this,by have:=hc _ _ (g.2.2.2.2.2.1);rw[<-Nat.add_assoc]at this;exact this,by have:=hc _ _ (g.2.2.2.2.2.2);rw[<-Nat.add_assoc]at this;exact this⟩,hat _ (List.getElem_mem hi)⟩
theorem Dq.one(w:World)(x:Ae):Bp (w.alloc (.cells #[.int .i64 x.id,.int .i64 x.b1,x.c1.val,.int .i64 x.b2,x.c2.val,x.own.val,.int .i64 x.made] 39)) (some ⟨w.heap.size,0,none⟩) 1 (Ce [x]):=fun _=>by
 refine⟨w.heap.size,0,rfl,by simp,fun j u hu=>?_⟩;have h:=Ag.new w (.cells #[.int .i64 x.id,.int .i64 x.b1,x.c1.val,.int .i64 x.b2,x.c2.val,x.own.val,.int .i64 x.made] 39);have e:Ce [x]=[.int .i64 x.id,.int .i64 x.b1,x.c1.val,.int .i64 x.b2,x.c2.val,x.own.val,.int .i64 x.made]:=by simp[Ce,Ae.cs]
 rw[e]at hu;rw[Nat.zero_add];refine h.c0 j ?_;rw[<-hu];simp only[List.getElem?_toArray]
theorem I7(w:World)(tt:TypeId)(B:Nat)(v:Value)(l:List Ae)(hown:Dq w B v l)(ad:Option Addr)(c:Nat)(x:Ae)(hc:Bp w ad 1 (Ce [x]))(hn:l.length<=1048576)(hB:B<=w.heap.size):
 ∃a' c' w',(Builtin.append_ #[24,24] tt #[v,.slice ad 1 c]).run prog w= .ok (.slice a' (l.length+1) c') w'/\Dq w' B (.slice a' (l.length+1) c') (l++[x])/\w.grownBy w' v.ownBlock:=by
 obtain⟨a',c',w',h1,h2,h3,_⟩:=G8 underlying24 Tryz.info39 rfl (by omega) w tt B v l.length (Ce l) hown ad 1 c (Ce [x]) (UI [x]) hc Tv (by omega) (by omega) hB;refine⟨a',c',w',h1,?_,h3⟩;unfold Dq;rw[List.length_append,Oo];exact h2
theorem Kh{ops:Array Oper}{rest:List Oper}{oo:Oper}{a:Act}{Q:Exit->Act->World->Prop}(w:World)(hgd:oo.guard=none)(s x:Operand)
 (ho:oo.op= .call {callee:= .builtin .append,args:=#[s,x],argTypes:=#[24,24]})
 (B:Nat)(v:Value)(l:List Ae)(hs:a.eval s=v)(hown:Dq w B v l)(ad:Option Addr)(c:Nat)(y:Ae)(hx:a.eval x= .slice ad 1 c)(hc:Bp w ad 1 (Ce [y]))(hn:l.length<=1048576)(hB:B<=w.heap.size)
 (h:∀a' c' w',Dq w' B (.slice a' (l.length+1) c') (l++[y])->w.grownBy w' v.ownBlock->wpList prog ops Q rest (a.put oo.dst (.slice a' (l.length+1) c')) w'):wpList prog ops Q (oo::rest) a w:=by
 refine wpList_plain hgd fun K hK=>?_;obtain⟨a',c',w',hr,h2,h3⟩:=I7 w oo.type B v l hown ad c y hc hn hB;unfold Oper.wp execOp;simp only[ho,resolve,invoke,builtin,Sem.run_bind,Sem.run_pure,Result.andThen_ok,List.map_toArray,List.map_cons,List.map_nil,hs,hx,hr];exact hK _ _ (h a' c' w' h2 h3)
theorem IN{ops:Array Oper}{oo:Oper}{a:Act}{w:World}{K:Act->World->Prop}{Q:Exit->Act->World->Prop}{E:Prop}(hgd:oo.guard=none)(s x:Operand)
 (ho:oo.op= .call {callee:= .builtin .append,args:=#[s,x],argTypes:=#[24,24]})
 (B:Nat)(v:Value)(l:List Ae)(hs:a.eval s=v)(hown:Dq w B v l)(ad:Option Addr)(c:Nat)(y:Ae)(hx:a.eval x= .slice ad 1 c)(hc:Bp w ad 1 (Ce [y]))(hn:l.length<=1048576)(hB:B<=w.heap.size)
 (h:∀a' c' w',Dq w' B (.slice a' (l.length+1) c') (l++[y])->w.grownBy w' v.ownBlock->K (a.put oo.dst (.slice a' (l.length+1) c')) w'):
 if Region.wanted oo (yielded ops a.tmps)=true then Oper.wp prog oo a w K Q else E:=by
 have hw:Region.wanted oo (yielded ops a.tmps)=true:=by simp[Region.wanted,hgd]
 rw[if_pos hw];obtain⟨a',c',w',hr,h2,h3⟩:=I7 w oo.type B v l hown ad c y hc hn hB;unfold Oper.wp execOp;simp only[ho,resolve,invoke,builtin,Sem.run_bind,Sem.run_pure,Result.andThen_ok,List.map_toArray,List.map_cons,List.map_nil,hs,hx,hr];exact h a' c' w' h2 h3
def Ab.cs(v:Ab):List Value:=[.int .i64 v.id,.int .i64 v.kind,.int .i64 v.up,.int .i64 v.b1,v.c1.val,.string v.data,v.jA.val,v.own.val,.int .i64 v.b2,v.c2.val]
def Ax(l:List Ab):List Value:=(l.map Ab.cs).flatten
theorem Gv(l:List Ab):(Ax l).length=l.length*10:=by
 induction l with
 |nil=>rfl
 |cons x r ih=>simp[Ax,Ab.cs]at *;omega
theorem Jq(l r:List Ab):Ax (l++r)=Ax l++Ax r:=by simp[Ax]
theorem LZ{l:List Ab}:∀u∈Ax l,u.oneCell'=true:=fun u hu=>by
 simp only[Ax,List.mem_flatten,List.mem_map]at hu;obtain⟨_,⟨x,_,rfl⟩,h⟩:=hu;simp only[Ab.cs,List.mem_cons,List.not_mem_nil,or_false]at h;rcases h with rfl|rfl|rfl|rfl|rfl|rfl|rfl|rfl|rfl|rfl<;>rfl
theorem Mf{l:List Ab}:∀{i:Nat} (hi:i<l.length),(Ax l)[i*10]? =some (.int .i64 (l[i]).id)/\(Ax l)[i*10+1]? =some (.int .i64 (l[i]).kind)/\(Ax l)[i*10+2]? =some (.int .i64 (l[i]).up)/\(Ax l)[i*10+3]? =some (.int .i64 (l[i]).b1)/\(Ax l)[i*10+4]? =some ((l[i]).c1.val)/\(Ax l)[i*10+5]? =some (.string (l[i]).data)/\(Ax l)[i*10+6]? =some ((l[i]).jA.val)/\(Ax l)[i*10+7]? =some ((l[i]).own.val)/\(Ax l)[i*10+8]? =some (.int .i64 (l[i]).b2)/\(Ax l)[i*10+9]? =some ((l[i]).c2.val):=by
 induction l with
 |nil=>intro i hi;simp at hi
 |cons x r ih=>
  intro i hi;have e:Ax (x::r)=Value.int .i64 x.id::Value.int .i64 x.kind::Value.int .i64 x.up::Value.int .i64 x.b1::x.c1.val::Value.string x.data::x.jA.val::x.own.val::Value.int .i64 x.b2::x.c2.val::Ax r:=by simp[Ax,Ab.cs]
  rw[e];cases i with
  |zero=>simp
  |succ i=>
   have h:=ih (i:=i) (by simpa using hi);have e1:(i+1)*10=i*10+1+1+1+1+1+1+1+1+1+1:=(by omega);rw[e1];simpa using h
def AO(w:World)(B:Nat)(v:Value)(l:List Ab):Prop:=w.ownsRow B 44 10 v l.length (Ax l)
def Ab.z:Ab:=⟨0,0,0,0,⟨none,0,0,fun _=>0,fun _=>0⟩,⟨#[]⟩,⟨none,0,0,fun _=>⟨#[]⟩⟩,⟨none,0,0,fun _=>0⟩,0,⟨none,0,0,fun _=>0,fun _=>0⟩⟩
def Aa(l:List Ab)(i:Nat):Ab:=l.getD i Ab.z
theorem AO.nil(w:World)(B:Nat):AO w B (.slice none 0 0) []:=World.ownsRow_nil _ _ _ _
theorem AO.made(w:World)(B:Nat)(hb:B<=w.heap.size):AO (w.alloc (.cells #[] 44)) B (.slice (w.heap.size) 0 0) []:=World.ownsRow_made w #[] 0 hb (Nat.zero_le _) rfl
theorem AO.shape{l:List Ab}(h:AO w B v l):∃a c,v= .slice a l.length c:=Df h
theorem AO.grown{l:List Ab}(h:AO w B v l)(hg:w.grownBy w' row)(hne:v.ownBlock=none∨v.ownBlock≠row):AO w' B v l:=World.ownsRow.kept h hg hne
theorem AO.below{l:List Ab}(h:AO w B v l)(hb:Below w.heap.size w w'):AO w' B v l:=World.ownsRow.kept (row:=none) h ⟨hb.os,hb.tape,hb.output,hb.size,fun k hk _=>hb.block k hk⟩ (by cases v.ownBlock<;>simp)
theorem AO.base{l:List Ab}(h:AO w B v l)(hB:B'<=B):AO w B' v l:=by
 refine⟨h.1,?_⟩;rcases h.2 with hn|⟨g,cap,cur,hv,hbg,rest⟩
 ·exact .inl hn
 ·exact .inr ⟨g,cap,cur,hv,Nat.le_trans hB hbg,rest⟩
theorem AO.lies{l:List Ab}(h:AO w B (.slice a l.length c) l)(hat:∀x∈l,x.at w):Hz w a l.length (Aa l):=fun hn=>by
 obtain⟨b,off,e,hlt,hc⟩:=Bp.own h hn;refine⟨b,off,e,hlt,fun i hi=>?_⟩;have g:=Mf hi;have e1:Aa l i=l[i]:=by simp[Aa,hi]
 rw[e1];exact⟨⟨by have:=hc _ _ (g.1);exact this,by have:=hc _ _ (g.2.1);rw[<-Nat.add_assoc]at this;exact this,by have:=hc _ _ (g.2.2.1);rw[<-Nat.add_assoc]at this;exact this,by have:=hc _ _ (g.2.2.2.1);rw[<-Nat.add_assoc]at this;exact this,by have:=hc _ _ (g.2.2.2.2.1);rw[<-Nat.add_assoc]at this;exact this,by have:=hc _ _ (g.2.2.2.2.2.1);rw[<-Nat.add_assoc]at this;exact this,by have:=hc _ _ (g.2.2.2.2.2.2.1);rw[<-Nat.add_assoc]at this;exact this,by have:=hc _ _ (g.2.2.2.2.2.2.2.1);rw[<-Nat.add_assoc]at this;exact this,by have:=hc _ _ (g.2.2.2.2.2.2.2.2.1);rw[<-Nat.add_assoc]at this;exact this,by have:=hc _ _ (g.2.2.2.2.2.2.2.2.2);rw[<-Nat.add_assoc]at this;exact this⟩,hat _ (List.getElem_mem hi)⟩
theorem AO.one(w:World)(x:Ab):Bp (w.alloc (.cells #[.int .i64 x.id,.int .i64 x.kind,.int .i64 x.up,.int .i64 x.b1,x.c1.val,.string x.data,x.jA.val,x.own.val,.int .i64 x.b2,x.c2.val] 44)) (some ⟨w.heap.size,0,none⟩) 1 (Ax [x]):=fun _=>by
 refine⟨w.heap.size,0,rfl,by simp,fun j u hu=>?_⟩;have h:=Ag.new w (.cells #[.int .i64 x.id,.int .i64 x.kind,.int .i64 x.up,.int .i64 x.b1,x.c1.val,.string x.data,x.jA.val,x.own.val,.int .i64 x.b2,x.c2.val] 44);have e:Ax [x]=[.int .i64 x.id,.int .i64 x.kind,.int .i64 x.up,.int .i64 x.b1,x.c1.val,.string x.data,x.jA.val,x.own.val,.int .i64 x.b2,x.c2.val]:=by simp[Ax,Ab.cs]
 rw[e]at hu;rw[Nat.zero_add];refine h.c0 j ?_;rw[<-hu];simp only[List.getElem?_toArray]
theorem IM(w:World)(tt:TypeId)(B:Nat)(v:Value)(l:List Ab)(hown:AO w B v l)(ad:Option Addr)(c:Nat)(x:Ab)(hc:Bp w ad 1 (Ax [x]))(hn:l.length<=1048576)(hB:B<=w.heap.size):
 ∃a' c' w',(Builtin.append_ #[25,25] tt #[v,.slice ad 1 c]).run prog w= .ok (.slice a' (l.length+1) c') w'/\AO w' B (.slice a' (l.length+1) c') (l++[x])/\w.grownBy w' v.ownBlock:=by
 obtain⟨a',c',w',h1,h2,h3,_⟩:=G8 underlying25 Tryz.info44 rfl (by omega) w tt B v l.length (Ax l) hown ad 1 c (Ax [x]) (Gv [x]) hc LZ (by omega) (by omega) hB;refine⟨a',c',w',h1,?_,h3⟩;unfold AO;rw[List.length_append,Jq];exact h2
theorem CI{ops:Array Oper}{rest:List Oper}{oo:Oper}{a:Act}{Q:Exit->Act->World->Prop}(w:World)(hgd:oo.guard=none)(s x:Operand)
 (ho:oo.op= .call {callee:= .builtin .append,args:=#[s,x],argTypes:=#[25,25]})
 (B:Nat)(v:Value)(l:List Ab)(hs:a.eval s=v)(hown:AO w B v l)(ad:Option Addr)(c:Nat)(y:Ab)(hx:a.eval x= .slice ad 1 c)(hc:Bp w ad 1 (Ax [y]))(hn:l.length<=1048576)(hB:B<=w.heap.size)
 (h:∀a' c' w',AO w' B (.slice a' (l.length+1) c') (l++[y])->w.grownBy w' v.ownBlock->wpList prog ops Q rest (a.put oo.dst (.slice a' (l.length+1) c')) w'):wpList prog ops Q (oo::rest) a w:=by
 refine wpList_plain hgd fun K hK=>?_;obtain⟨a',c',w',hr,h2,h3⟩:=IM w oo.type B v l hown ad c y hc hn hB;unfold Oper.wp execOp;simp only[ho,resolve,invoke,builtin,Sem.run_bind,Sem.run_pure,Result.andThen_ok,List.map_toArray,List.map_cons,List.map_nil,hs,hx,hr];exact hK _ _ (h a' c' w' h2 h3)
theorem Gj{ops:Array Oper}{oo:Oper}{a:Act}{w:World}{K:Act->World->Prop}{Q:Exit->Act->World->Prop}{E:Prop}(hgd:oo.guard=none)(s x:Operand)
 (ho:oo.op= .call {callee:= .builtin .append,args:=#[s,x],argTypes:=#[25,25]})
 (B:Nat)(v:Value)(l:List Ab)(hs:a.eval s=v)(hown:AO w B v l)(ad:Option Addr)(c:Nat)(y:Ab)(hx:a.eval x= .slice ad 1 c)(hc:Bp w ad 1 (Ax [y]))(hn:l.length<=1048576)(hB:B<=w.heap.size)
 (h:∀a' c' w',AO w' B (.slice a' (l.length+1) c') (l++[y])->w.grownBy w' v.ownBlock->K (a.put oo.dst (.slice a' (l.length+1) c')) w'):
 if Region.wanted oo (yielded ops a.tmps)=true then Oper.wp prog oo a w K Q else E:=by
 have hw:Region.wanted oo (yielded ops a.tmps)=true:=by simp[Region.wanted,hgd]
 rw[if_pos hw];obtain⟨a',c',w',hr,h2,h3⟩:=IM w oo.type B v l hown ad c y hc hn hB;unfold Oper.wp execOp;simp only[ho,resolve,invoke,builtin,Sem.run_bind,Sem.run_pure,Result.andThen_ok,List.map_toArray,List.map_cons,List.map_nil,hs,hx,hr];exact h a' c' w' h2 h3
variable {w:World}{t:Ab}{k:Aw}{a:Option Addr}{n:Nat}
theorem AH.row.at{c:AH}(h:c.row w)(hs:c.small):c.at w:=by
 obtain⟨b,e,hr⟩:=h;refine⟨by unfold maxLen;have:=hs.1;omega,fun _=>⟨b,0,e,hr.lt,fun i hi=>?_⟩,fun i hi=>by unfold maxLen;have:=hs.2 i hi;omega⟩;rw[Nat.zero_add];exact hr.cell hi
theorem Ab.row.at(h:t.row w)(hs:t.small):t.at w:=by
 obtain⟨⟨b1,e1,r1⟩,r2,⟨b3,e3,r3⟩,⟨b4,e4,r4⟩⟩:=h;obtain⟨s1,s2,s3,s4,s5⟩:=hs;refine⟨⟨by unfold maxLen;omega,?_⟩,AH.row.at r2 s3,⟨by unfold maxLen;omega,?_⟩,⟨by unfold maxLen;omega,?_⟩,by unfold maxLen;omega⟩
 ·rw[e1];exact AX.row r1
 ·rw[e3];exact Be.row r3
 ·rw[e4];exact AX.row r4
theorem Ae.same.small{t u:Ae}(h:t.same u)(hs:t.small):u.small:=by
 obtain⟨_,_,⟨e1,_⟩,_,⟨e2,_⟩,⟨e3,_⟩,_⟩:=h;unfold Ae.small at *;rw[e1,e2,e3];exact hs
theorem Ab.same.small{u:Ab}(h:t.same u)(hs:t.small):u.small:=by
 obtain⟨_,_,_,_,⟨e1,_⟩,e2,⟨e3,e4⟩,⟨e5,_⟩,_,⟨e6,_⟩⟩:=h;unfold Ab.small AH.small at *;rw[e1,e2,e3,e4,e5,e6];exact hs
theorem Aw.same.small{l:Aw}(h:k.same l)(hs:k.small):l.small:=by
 obtain⟨e1,h1,e2,h2⟩:=h;obtain⟨⟨n1,s1⟩,⟨n2,s2⟩⟩:=hs;unfold Aw.small;rw[e1,e2];exact⟨⟨n1,fun i hi=>Ae.same.small (h1 i hi) (s1 i hi)⟩,⟨n2,fun i hi=>Ab.same.small (h2 i hi) (s2 i hi)⟩⟩
theorem bM.cells{b ty N:Nat}{G:Nat->Value}{o:Nat}(hr:w.rowIs b ty N G)(h:bM G o t)(ho:o+10<=N):C9 w b o t:=
 ⟨(hr.cell (by omega)).trans (congrArg some h.g0),(hr.cell (by omega)).trans (congrArg some h.g1),(hr.cell (by omega)).trans (congrArg some h.g2),(hr.cell (by omega)).trans (congrArg some h.g3),(hr.cell (by omega)).trans (congrArg some h.g4),(hr.cell (by omega)).trans (congrArg some h.g5),(hr.cell (by omega)).trans (congrArg some h.g6),(hr.cell (by omega)).trans (congrArg some h.g7),(hr.cell (by omega)).trans (congrArg some h.g8),(hr.cell (by omega)).trans (congrArg some h.g9)⟩
theorem Hu.at{T:Nat->Ae}(h:Hu w a n T)(hs:∀i,i<n->(T i).small):Iv w a n T:=fun _=>by
 obtain⟨b,G,e,hr,hj⟩:=h;refine⟨b,0,e,hr.lt,fun i hi=>⟨?_,Ae.row.at (hj i hi).2 (hs i hi)⟩⟩;rw[Nat.zero_add];exact G7.cells hr (hj i hi).1 (by omega)
theorem Ia.at{T:Nat->Ab}(h:Ia w a n T)(hs:∀i,i<n->(T i).small):Hz w a n T:=fun _=>by
 obtain⟨b,G,e,hr,hj⟩:=h;refine⟨b,0,e,hr.lt,fun i hi=>⟨?_,Ab.row.at (hj i hi).2 (hs i hi)⟩⟩;rw[Nat.zero_add];exact bM.cells hr (hj i hi).1 (by omega)
theorem Aw.row.at(h:k.row w)(hs:k.small):k.at w:=
 ⟨by unfold maxLen;have:=hs.1.1;omega,by unfold maxLen;have:=hs.2.1;omega,Hu.at h.1 hs.1.2,Ia.at h.2 hs.2.2⟩

def Ab.blk(t:Ab):Obj:= .cells #[t.id,t.kind,t.up,t.b1,t.c1.val,.string t.data,t.jA.val,t.own.val,t.b2,t.c2.val] 44

theorem one_byte(w:World)(x:Int)(h0:0<=x)(h1:x<256):
 (convert 22 9 (Value.slice (w) 1 1)).run prog (w.alloc (.cells #[.int .u8 x] 5))= .ok (.string ⟨#[UInt8.ofNat x.toNat]⟩) (w.alloc (.cells #[.int .u8 x] 5)):=by
 refine run_convert_bytes_back (P:=prog) (w.alloc (.cells #[.int .u8 x] 5)) 22 9 5 ⟨w,0,none⟩ 1 [UInt8.ofNat x.toNat] underlying22 underlying5 underlying9 fun j hj=>?_;obtain rfl:j=0:=by simpa using hj
 have e:(((UInt8.ofNat x.toNat).toNat:Nat):Int)=x:=by
  rw[UInt8.toNat_ofNat_of_lt' (by simp[UInt8.size];omega)];omega
 simp only[List.getElem_cons_zero,e];simp[Addr.add]
theorem II(b:UInt8)(l:List UInt8):((⟨#[b]⟩:ByteArray)++(⟨l.toArray⟩:ByteArray))=⟨(b::l).toArray⟩:=by
 apply ByteArray.ext;apply Array.ext';simp
variable {lo hi:Nat}
structure Mk(lo hi:Nat)(w w':World):Prop where
 os:w'.os=w.os
 tape:w'.tape=w.tape
 output:w'.output=w.output
 size:w.heap.size<=w'.heap.size
 block:∀k,k<w.heap.size->(k<lo∨hi<=k)->w'.heap[k]? =w.heap[k]?
 rows:∀b ty m F,w.rowIs b ty m F->∃F',w'.rowIs b ty m F'
theorem Mk.refl(lo hi:Nat)(w:World):Mk lo hi w w:=⟨rfl,rfl,rfl,Nat.le_refl _,fun _ _ _=>rfl,fun _ _ _ F h=>⟨F,h⟩⟩
theorem Mk.trans{a b c:World}(h:Mk lo hi a b)(k:Mk lo hi b c):Mk lo hi a c:=
 ⟨k.os.trans h.os,k.tape.trans h.tape,k.output.trans h.output,Nat.le_trans h.size k.size,fun j hj hn=>(k.block j (Nat.lt_of_lt_of_le hj h.size) hn).trans (h.block j hj hn),fun b ty m F hF=>by
   obtain⟨F',h'⟩:=h.rows b ty m F hF;exact k.rows b ty m F' h'⟩
theorem Mk.set{w wr:World}(h:Mk lo hi w wr){b:Nat}(h1:lo<=b)(h2:b<hi)(i:Nat)(v:Value):Mk lo hi w (wr.setCell ⟨b,i,none⟩ v):=
 ⟨h.os,h.tape,h.output,by rw[nblk_setCell];exact h.size,fun k hk hn=>(blk_setCell_other _ _ _ _ (by dsimp only;omega)).trans (h.block k hk hn),fun b' ty m F hF=>by
   obtain⟨F',h'⟩:=h.rows b' ty m F hF;by_cases e:b'=b
   ·subst e;exact⟨_,h'.set i v⟩
   ·exact⟨F',h'.setOther (a:=⟨b,i,none⟩) e v⟩⟩


variable {v:Value}{w w':World}{b n B g:Nat}{ids:Nat->Int}{l:List Int}
def QV(v:Value):Option (DataW Unit×List MemPlace):=
 match v with
 | .pointer none=>some (.lit (.int .i64 (-1)),[])
 | .pointer (some ⟨b,0,none⟩)=>some (.lit (.int .i64 (b:Int)),[])
 |_=>none
theorem Mg{c:Int}{ps:List MemPlace}(h:QV v=some (.lit (.int .i64 c),ps)):v= .pointer (if c= -1 then none else some ⟨c.toNat,0,none⟩):=by
 unfold QV at h;split at h
 ·simp only[Option.some.injEq,Prod.mk.injEq,DataW.lit.injEq,Lit.int.injEq]at h;rw[if_pos h.1.2.symm]
 ·simp only[Option.some.injEq,Prod.mk.injEq,DataW.lit.injEq,Lit.int.injEq]at h;obtain⟨⟨_,e⟩,_⟩:=h;rw[if_neg (by omega),<-e];simp
 ·cases h
def GC(w:World)(b n:Nat)(m:Int->Option Nat):Prop:=
 ∃D:DataW Unit,w.ownsMap prog 2 QV b n D/\IsMap D/\
  ∀x,Maps.has D (.int .i64 x)=(m x).isSome/\∀v,m x=some v->D.atKey (.int .i64 x) (.lit (.int .i64 (-1)))= .lit (.int .i64 (v:Int))
theorem GC.made(w:World):GC (w.alloc (.map #[] 0)) w 0 (fun _=>none):=
 ⟨.map [],World.ownsMap_made _ _ _ _,isMap_empty,fun x=>⟨rfl,fun v h=>by cases h⟩⟩
theorem GC.of_block{m:Int->Option Nat}(h:GC w b n m)(e:w'.heap[b]? =w.heap[b]?):GC w' b n m:=by
 obtain⟨D,⟨es,clock,hb,F,hs,hD⟩,r⟩:=h;exact⟨D,⟨es,clock,e.trans hb,F,hs,hD⟩,r⟩
theorem GC.lt{m:Int->Option Nat}(h:GC w b n m):b<w.heap.size:=by
 obtain⟨D,h1,_⟩:=h;exact h1.lt
theorem GC.below{m:Int->Option Nat}(h:GC w b n m)(hb:Below w w w'):GC w' b n m:=h.of_block (hb.block b h.lt)
theorem GC.isMap{m:Int->Option Nat}(h:GC w b n m):∃es clock,w.heap[b]? =some (.map es clock):=by
 obtain⟨D,⟨es,clock,hb,_⟩,_⟩:=h;exact⟨es,clock,hb⟩
def IR(m:Int->Option Nat)(k:Int)(v:Nat)(x:Int):Option Nat:=if k=x then some v else m x
theorem GC.put{D:DataW Unit}{m:Int->Option Nat}{k:Int}{v:Nat}(h2:IsMap D)
 (h3:∀x,Maps.has D (.int .i64 x)=(m x).isSome/\∀v,m x=some v->D.atKey (.int .i64 x) (.lit (.int .i64 (-1)))= .lit (.int .i64 (v:Int))):
 IsMap (D.put (.int .i64 k) (.lit (.int .i64 (v:Int))))/\
 ∀x,Maps.has (D.put (.int .i64 k) (.lit (.int .i64 (v:Int)))) (.int .i64 x)=(IR m k v x).isSome/\∀u,IR m k v x=some u->(D.put (.int .i64 k) (.lit (.int .i64 (v:Int)))).atKey (.int .i64 x) (.lit (.int .i64 (-1)))= .lit (.int .i64 (u:Int)):=by
 refine⟨h2.put _ _,fun x=>?_⟩;by_cases e:k=x
 ·subst e;refine⟨?_,fun u hu=>?_⟩
  ·rw[has_put_same h2 (by trivial)];simp[IR]
  ·simp[IR]at hu;subst hu;exact atKey_put_same h2 (by trivial) _ _
 ·have hne:(Lit.int .i64 x)≠(Lit.int .i64 k):=by simp;exact fun h=>e h.symm
  refine⟨?_,fun u hu=>?_⟩
  ·rw[has_put_other hne];simp[IR,e];exact(h3 x).1
  ·simp[IR,e]at hu;rw[atKey_put_other hne];exact(h3 x).2 u hu
theorem aP(w:World):(zeroValue 70).run prog w= .ok (.pointer none) w:=by kernel_rfl
theorem GC.look{m:Int->Option Nat}{x:Int}(h:GC w b n m)(hx:(Lit.int .i64 x).wf=true):
 (Instr.lookup 71 (.map (some b)) (.int .i64 x) false).run prog w= .ok (.pointer ((m x).map fun p=>⟨p,0,none⟩)) w:=by
 obtain⟨D,hown,hD,hall⟩:=h;obtain⟨v,ps,hrun,hv⟩:=hown.lookup H9 underlying71 (aP w) (zd:= .lit (.int .i64 (-1))) (zp:=[]) rfl (keyOf_int_mk underlying2 hx);obtain⟨h1,h2⟩:=hall x;rw[hrun];cases hm:m x with
 |none=>
  have:Maps.has D (.int .i64 x)=false:=by rw[h1,hm];rfl
  rw[atKey_of_not_has this]at hv;rw[Mg hv];rfl
 |some p=>
  rw[h2 p hm]at hv;rw[Mg hv,if_neg (by omega)];simp
theorem Du.less{m:Nat}(h:Du ids n)(hm:m<=n):Du ids m:=fun i j hij hj=>h i j hij (by omega)
theorem TV{k:Nat}(h:Du ids (k+1))(x:Int):Bg ids (k+1) x=if ids k=x then some k else Bg ids k x:=by
 split
 ·rename_i e;subst e;exact Dt h (Nat.lt_succ_self k)
 ·rename_i e;cases e1:Bg ids k x with
  |none=>
   cases e2:Bg ids (k+1) x with
   |none=>rfl
   |some j=>
    obtain⟨j1,j2⟩:=Av e2;by_cases ej:j=k
    ·subst ej;exact absurd j2 e
    ·exact absurd j2 (GQ e1 j (by omega))
  |some j=>
   obtain⟨j1,j2⟩:=Av e1;rw[<-j2];exact Dt h (by omega)
structure Eb(w:World)(B c n:Nat)(ids:Nat->Int)(ob off:Nat)(nb:Nat->Nat)(kv:Nat->Value)(K:Nat->List Int):Prop where
 map:GC w c n (fun x=>(Bg ids n x).map nb)
 blk:∀i,i<n->Ag w (nb i) (.cells #[.pointer (some ⟨ob,off+i*10,none⟩),kv i] 76)
 inj:∀i j,i<n->j<n->nb i=nb j->i=j
 own:∀i,i<n->Ay w B (kv i) (K i)
 apart:∀i j,i<n->j<n->i≠j->(kv i).ownBlock=none∨(kv i).ownBlock≠(kv j).ownBlock
 low:∀i,i<n->B<=nb i
 lowc:B<=c
theorem Lt(h:Ay w B v l)(e:v.ownBlock=some g):∃cur,w.heap[g]? =some (.cells cur 2):=by
 rcases h.2 with⟨rfl,_⟩|⟨g',cap,cur,rfl,_,hb,_⟩
 ·cases e
 ·simp only[Value.ownBlock,Option.some.injEq]at e;subst e;exact⟨cur,hb⟩
theorem Tg(h:Ay w B v l){cs:Array Value}{t:Nat}(hg:Ag w g (.cells cs t))(ht:t≠2):some g≠v.ownBlock:=fun e=>by
 obtain⟨cur,hb⟩:=Lt h e.symm;unfold Ag at hg;rw[hg]at hb;simp only[Option.some.injEq,Obj.cells.injEq]at hb;exact ht hb.2.1
theorem Xi(h:Ay w B v l){m:Int->Option Nat}(hg:GC w g n m):some g≠v.ownBlock:=fun e=>by
 obtain⟨cur,hb⟩:=Lt h e.symm;obtain⟨es,clock,hm⟩:=hg.isMap;rw[hm]at hb;cases hb
theorem Eb.below{c:Nat}{ob off:Nat}{nb:Nat->Nat}{kv:Nat->Value}{K:Nat->List Int}(h:Eb w B c n ids ob off nb kv K)(hb:Below w w w'):Eb w' B c n ids ob off nb kv K:=
 ⟨h.map.below hb,fun i hi=>(h.blk i hi).below hb,h.inj,fun i hi=>World.ownsRow.kept (h.own i hi) (row:=none) ⟨hb.os,hb.tape,hb.output,hb.size,fun k hk _=>hb.block k hk⟩ (by
   cases e:(kv i).ownBlock with
   |none=>exact .inl rfl
   |some g=>exact .inr (by simp)),h.apart,h.low,h.lowc⟩
theorem Eb.step{W W':World}{B c n:Nat}{ids:Nat->Int}{ob off:Nat}{nb:Nat->Nat}{kv:Nat->Value}{K:Nat->List Int}(H:Eb W B c n ids ob off nb kv K){u:Nat}(hu:u<n){v':Value}{x:Int}
 (ho:Ay W' B v' (K u++[x]))(hgr:W.grownBy W' (kv u).ownBlock)(hv:v'.ownBlock=(kv u).ownBlock∨v'.ownBlock=some W):
 Eb (W'.setCell ⟨nb u,1,none⟩ v') B c n ids ob off nb (fun j=>if j=u then v' else kv j) (fun j=>if j=u then K u++[x]else K j):=by
 have bk:∀i,i<n->Ag W' (nb i) (.cells #[.pointer (some ⟨ob,off+i*10,none⟩),kv i] 76):=fun i hi=>(hgr.block (nb i) (H.blk i hi).lt (Tg (H.own u hu) (H.blk i hi) (by omega))).trans (H.blk i hi);have mk:GC W' c n (fun x=>(Bg ids n x).map nb):=H.map.of_block (hgr.block c H.map.lt (Xi (H.own u hu) H.map));have cne:c≠nb u:=fun e=>by
  obtain⟨es,clock,hm⟩:=H.map.isMap;have:=H.blk u hu;unfold Ag at this;rw[<-e,hm]at this;cases this
 have gs:W'.grownBy (W'.setCell ⟨nb u,1,none⟩ v') (some (nb u)):=⟨rfl,rfl,rfl,by rw[nblk_setCell];exact Nat.le_refl _,fun j hj hne=>blk_setCell_other _ _ _ _ (by dsimp only;intro e;exact hne (by rw[e]))⟩;have set:∀{v:Value}{X:List Int},Ay W' B v X->Ay (W'.setCell ⟨nb u,1,none⟩ v') B v X:=fun{v X} hX=>
  World.ownsRow.kept hX gs (.inr (fun e=>Tg hX (bk u hu) (by omega) e.symm))
 refine⟨mk.of_block (blk_setCell_other _ _ _ _ cne),fun i hi=>?_,H.inj,fun i hi=>?_,fun i j hi hj hne=>?_,H.low,H.lowc⟩
 ·by_cases e:i=u
  ·subst e;rw[if_pos rfl];have:=(bk i hi).jB (i:=1) v';simpa using this
  ·rw[if_neg e];exact(bk i hi).other (fun e'=>e (H.inj i u hi hu e'.symm)) v'
 ·by_cases e:i=u
  ·subst e;rw[if_pos rfl,if_pos rfl];exact set ho
  ·rw[if_neg e,if_neg e];exact set (World.ownsRow.kept (H.own i hi) hgr (H.apart i u hi hu e))
 ·have lt:∀j,j<n->(kv j).ownBlock=none∨(kv j).ownBlock≠some W.heap.size:=fun j hj=> .inr fun e=>by have:=(World.ownsRow.lt (H.own j hj) _ e).2;omega
  by_cases e:i=u
  ·subst e;rw[if_pos rfl,if_neg (fun e=>hne e.symm)];rcases hv with hv|hv
   ·rw[hv];exact H.apart _ _ hi hj hne
   ·rw[hv];exact .inr (fun e=>by have:=(World.ownsRow.lt (H.own j hj) _ e.symm).2;omega)
  ·rw[if_neg e];by_cases e':j=u
   ·subst e';rw[if_pos rfl];rcases hv with hv|hv
    ·rw[hv];exact H.apart _ _ hi hj hne
    ·rw[hv];exact lt i hi
   ·rw[if_neg e'];exact H.apart _ _ hi hj hne
end Go.Proofs.YteoihknaljgocaaGreatDoor
