import Derived.Maps.AppendAt
import Derived.ProofKit
import Derived.Shelf.Abstract
import Derived.Laws.IdiomStrings
import Derived.Test.YtbdagpckhfcneaaGreatDoorZ2r
set_option maxRecDepth 100000
namespace Go.Proofs.YtbdagpckhfcneaaGreatDoor
open Go Go.RowKit Go.Deep Go.Maps Go.Proofs.Tryz
open Go.WideShapes (add_plain)
def Bn(w:World)(ad:Option Addr)(n:Nat)(cs:List Value):Prop:=
 0<n->∃b off,ad=some ⟨b,off,none⟩/\b<w.heap.size/\∀j u,cs[j]? =some u->w.cell? ⟨b,off+j,none⟩=some u
theorem Bn.below{w w':World}{ad:Option Addr}{n:Nat}{cs:List Value}(h:Bn w ad n cs)(hb:Below w w w'):Bn w' ad n cs:=fun hn=>by
 obtain⟨b,off,e,hlt,hc⟩:=h hn;exact⟨b,off,e,Nat.lt_of_lt_of_le hlt hb.size,fun j u hu=>(hb.cell (p:=⟨b,off+j,none⟩) hlt).trans (hc j u hu)⟩
theorem Bn.own{w:World}{B e size n c:Nat}{a:Option Addr}{cs:List Value}(h:w.ownsRow B e size (.slice a n c) n cs):Bn w a n cs:=fun hn=>by
 obtain⟨gb,cap,hv,_,hlt⟩:=World.ownsRow.form h hn;simp only[Value.slice.injEq]at hv;obtain⟨rfl,_,_⟩:=hv;have hc:=World.ownsRow.cells h (g:=gb) rfl;refine⟨gb,0,rfl,hlt,fun j u hu=>?_⟩;have t:=hc j u hu;rw[add_plain]at t;exact t
theorem CZ{w:World}{B e size n:Nat}{v:Value}{cs:List Value}(h:w.ownsRow B e size v n cs):∃a c,v= .slice a n c:=by
 rcases h.2 with⟨rfl,rfl⟩|⟨gb,cap,cur,rfl,_⟩
 ·exact⟨_,_,rfl⟩
 ·exact⟨_,_,rfl⟩
section
variable {t e size bytes:Nat}{z:Value} (hT:prog.underlying t=some (.slice e)) (hI:(prog.info? e).map (fun i=>(i.zero,i.size,i.bytes))=some (some z,size,bytes)) (hzs:z.cells.size=size) (hsz:0<size)
include hT hI hzs hsz
theorem GM(w:World)(ty B:Nat)(v:Value)(n:Nat)(cs:List Value)(hown:w.ownsRow B e size v n cs)(ad:Option Addr)(m c:Nat)(cs':List Value)(hl:cs'.length=m*size)(hc:Bn w ad m cs')(h1:∀u∈cs',u.oneCell'=true)
 (hm:n+m<=4194304)(hby:(n+m)*bytes<=140737488355328)(hB:B<=w.heap.size):
 ∃a' c' w',(Builtin.append_ #[t,t] ty #[v,.slice ad m c]).run prog w= .ok (.slice a' (n+m) c') w'/\w'.ownsRow B e size (.slice a' (n+m) c') (n+m) (cs++cs')/\w.grownBy w' v.ownBlock/\
  ((Value.slice a' (n+m) c').ownBlock=v.ownBlock∨(Value.slice a' (n+m) c').ownBlock=some w):=by
 obtain⟨i0,hi,hz0,hz1,hz2⟩:=info_parts hI;have some':∀a:Addr,(∀j u,cs'[j]? =some u->w.cell? (a.add j)=some u)->∃a' c' w',(Builtin.append_ #[t,t] ty #[v,.slice (some a) m c]).run prog w= .ok (.slice a' (n+m) c') w'/\w'.ownsRow B e size (.slice a' (n+m) c') (n+m) (cs++cs')/\w.grownBy w' v.ownBlock/\
  ((Value.slice a' (n+m) c').ownBlock=v.ownBlock∨(Value.slice a' (n+m) c').ownBlock=some w):=fun a hnews=>by
  obtain⟨v',w',hr,h2,h3,_,h5⟩:=run_append_own_at (P:=prog) w B t ty e i0 _ size bytes hT hi hz0 hz1 hz2 hzs hsz v n cs hown a m c cs' hl hnews h1 (by unfold maxLen;omega) hby hB;obtain⟨a',c',rfl⟩:=CZ h2;exact⟨a',c',w',hr,h2,h3,h5⟩
 by_cases h0:0<m
 ·obtain⟨b,off,rfl,_,hcc⟩:=hc h0;exact some' _ (fun j u hu=>by rw[add_plain];exact hcc j u hu)
 ·obtain rfl:m=0:=by omega
  have e0:cs'=[]:=List.eq_nil_of_length_eq_zero (by omega);subst e0;cases ad with
  |some a=>exact some' a (fun j u hu=>by simp at hu)
  |none=>
   obtain⟨a',c',rfl⟩:=CZ hown;rw[List.append_nil];refine⟨a',c',w,?_,hown,⟨rfl,rfl,rfl,Nat.le_refl _,fun _ _ _=>rfl⟩,.inl rfl⟩;obtain⟨_,hx⟩:=hown;rcases hx with⟨hv,rfl⟩|⟨gb,cap,cur,hv,_,_,hnc,_⟩
   ·simp only[Value.slice.injEq]at hv;obtain⟨rfl,_,rfl⟩:=hv;simp[Builtin.append_,run_underlying hT,sizeOf,typeInfo,hi,Builtin.lenOf,Builtin.firstCells]
   ·simp only[Value.slice.injEq]at hv;obtain⟨rfl,_,rfl⟩:=hv;simp[Builtin.append_,run_underlying hT,sizeOf,typeInfo,hi,Builtin.lenOf,Builtin.firstCells,hnc,storeCells]
theorem Dr{o:Oper}{a:Act}{K:Act->World->Prop}{Q:Exit->Act->World->Prop}(w:World)(s x:Operand)
 (ho:o.op= .call {callee:= .builtin .append,args:=#[s,x],argTypes:=#[t,t]})
 (B:Nat)(v:Value)(n:Nat)(cs:List Value)(hs:a.eval s=v)(hown:w.ownsRow B e size v n cs)(ad:Option Addr)(m c:Nat)(cs':List Value)(hx:a.eval x= .slice ad m c)(hl:cs'.length=m*size)(hc:Bn w ad m cs')(h1:∀u∈cs',u.oneCell'=true)
 (hm:n+m<=4194304)(hby:(n+m)*bytes<=140737488355328)(hB:B<=w.heap.size)
 (h:∀a' c' w',w'.ownsRow B e size (.slice a' (n+m) c') (n+m) (cs++cs')->w.grownBy w' v.ownBlock->((Value.slice a' (n+m) c').ownBlock=v.ownBlock∨(Value.slice a' (n+m) c').ownBlock=some w)->K (a.put o.dst (.slice a' (n+m) c')) w'):o.wp prog a w K Q:=by
 obtain⟨a',c',w',hr,h2,h3,h4⟩:=GM hT hI hzs hsz w o.type B v n cs hown ad m c cs' hl hc h1 hm hby hB;unfold Oper.wp execOp;simp only[ho,resolve,invoke,builtin,Sem.run_bind,Sem.run_pure,Result.andThen_ok,List.map_toArray,List.map_cons,List.map_nil,hs,hx,hr];exact h a' c' w' h2 h3 h4
end
def AE(w:World)(B:Nat)(v:Value)(l:List Int):Prop:=w.ownsRow B 2 1 v l.length (l.map (Value.int .i64))
def Dv(w:World)(ad:Option Addr)(l:List Int):Prop:=Bn w ad l.length (l.map (Value.int .i64))
theorem Dv.below{w w':World}{ad:Option Addr}{l:List Int}(h:Dv w ad l)(hb:Below w w w'):Dv w' ad l:=Bn.below h hb
theorem AE.lies{w:World}{B c:Nat}{a:Option Addr}{l:List Int}(h:AE w B (.slice a l.length c) l):Dv w a l:=Bn.own h
theorem AE.nil(w:World)(B:Nat):AE w B (.slice none 0 0) []:=World.ownsRow_nil _ _ _ _
theorem AE.made(w:World)(B:Nat)(hb:B<=w.heap.size):AE (w.alloc (.cells #[] 2)) B (.slice (w) 0 0) []:=World.ownsRow_made w #[] 0 hb (Nat.zero_le _) rfl
theorem AE.alloc{w:World}{B:Nat}{v:Value}{l:List Int}(h:AE w B v l)(o:Obj):AE (w.alloc o) B v l:=World.ownsRow.alloc h o
def AV(l:List Int)(i:Nat):Int:=l.getD i 0
theorem Dv.ints{w:World}{ad:Option Addr}{l:List Int}(h:Dv w ad l):Bi w ad l.length (AV l):=fun hn=>by
 obtain⟨b,off,e,hlt,hc⟩:=h hn;exact⟨b,off,e,hlt,fun i hi=>hc i _ (by simp[AV,hi])⟩
theorem Bi.intL{w:World}{ad:Option Addr}{n:Nat}{h:Nat->Int}(hc:Bi w ad n h):Dv w ad ((List.range n).map h):=fun hn=>by
 have hn':0<n:=by simpa using hn
 obtain⟨b,off,e,hlt,hcc⟩:=hc hn';refine⟨b,off,e,hlt,fun j u hu=>?_⟩;by_cases hj:j<n
 ·simp[hj]at hu;rw[<-hu];exact hcc j hj
 ·simp[hj]at hu
theorem DY{ops:Array Oper}{rest:List Oper}{o:Oper}{a:Act}{Q:Exit->Act->World->Prop}(w:World)(hgd:o.guard=none)(s x:Operand)
 (ho:o.op= .call {callee:= .builtin .append,args:=#[s,x],argTypes:=#[40,40]})
 (B:Nat)(v:Value)(l:List Int)(hs:a.eval s=v)(hown:AE w B v l)(ad:Option Addr)(m c:Nat)(l':List Int)(hx:a.eval x= .slice ad m c)(hm':l'.length=m)(hc:Dv w ad l')
 (hm:l.length+m<=4194304)(hB:B<=w.heap.size)
 (h:∀a' c' w',AE w' B (.slice a' (l++l').length c') (l++l')->w.grownBy w' v.ownBlock->((Value.slice a' (l++l').length c').ownBlock=v.ownBlock∨(Value.slice a' (l++l').length c').ownBlock=some w)->wpList prog ops Q rest (a.put o.dst (.slice a' (l++l').length c')) w'):wpList prog ops Q (o::rest) a w:=by
 subst hm';refine wpList_plain hgd fun _ hK=>Dr underlying40 Tryz.info2 rfl (by omega) w s x ho B v l.length _ hs hown ad l'.length c _ hx (by simp) hc (fun u hu=>by obtain⟨y,_,rfl⟩:=List.mem_map.1 hu;rfl) hm (by omega) hB fun a' c' w' h2 h3 h4=>hK _ _ ?_;rw[<-List.map_append,<-List.length_append]at h2;rw[<-List.length_append]at h4 ⊢;exact h a' c' w' h2 h3 h4
theorem AZ{ops:Array Oper}{rest:List Oper}{o:Oper}{a:Act}{Q:Exit->Act->World->Prop}(w:World)(hgd:o.guard=none)(s x:Operand)
 (ho:o.op= .call {callee:= .builtin .append,args:=#[s,x],argTypes:=#[40,40]})
 (B:Nat)(v:Value)(l:List Int)(hs:a.eval s=v)(hown:AE w B v l)(ad:Option Addr)(m c:Nat)(l':List Int)(hx:a.eval x= .slice ad m c)(hm':l'.length=m)(hc:Dv w ad l')(R:List Int)(hR:R=l++l')
 (hm:R.length<=4194304)(hB:B<=w.heap.size)
 (h:∀a' c' w',AE w' B (.slice a' R.length c') R->w.grownBy w' v.ownBlock->((Value.slice a' R.length c').ownBlock=v.ownBlock∨(Value.slice a' R.length c').ownBlock=some w)->wpList prog ops Q rest (a.put o.dst (.slice a' R.length c')) w'):wpList prog ops Q (o::rest) a w:=by
 subst hR;exact DY w hgd s x ho B v l hs hown ad m c l' hx hm' hc (by rw[List.length_append]at hm;omega) hB h
theorem Dv.take{w:World}{b off:Nat}{l:List Int}(h:Dv w (some ⟨b,off,none⟩) l)(k:Nat):Dv w (some ⟨b,off,none⟩) (l.take k):=fun hn=>by
 have hl:0<l.length:=by simp at hn;omega
 obtain⟨b',off',e,hlt,hc⟩:=h hl;cases e;refine⟨b,off,rfl,hlt,fun j u hu=>hc j u ?_⟩;rw[List.map_take,List.getElem?_take]at hu;split at hu
 ·exact hu
 ·cases hu
theorem Dv.drop{w:World}{b off:Nat}{l:List Int}(h:Dv w (some ⟨b,off,none⟩) l)(k:Nat):Dv w (some ⟨b,off+k,none⟩) (l.drop k):=fun hn=>by
 have hl:0<l.length:=by simp at hn;omega
 obtain⟨b',off',e,hlt,hc⟩:=h hl;cases e;refine⟨b,off+k,rfl,hlt,fun j u hu=>?_⟩;rw[List.map_drop,List.getElem?_drop]at hu;have:=hc (k+j) u hu;rw[Nat.add_assoc];exact this
theorem Dv.one{w:World}(x:Int):Dv (w.alloc (.cells #[.int .i64 x] 2)) (some ⟨w,0,none⟩) [x]:=fun _=>
 ⟨w,0,rfl,by simp,fun j u hu=>by
   cases j with
   |zero=>simp at hu;subst hu;simp
   |succ j=>simp at hu⟩
theorem Dv.none(w:World)(ad:Option Addr):Dv w ad []:=fun h=>by simp at h
variable {l:List Ae}{w w':World}{B B' c:Nat}{v:Value}{row:Option Nat}{a:Option Addr}
def Ae.cs(v:Ae):List Value:=[.int .i64 v.id,.int .i64 v.b1,v.c1.val,.int .i64 v.b2,v.c2.val,v.own.val,.int .i64 v.made]
def Cc(l:List Ae):List Value:=(l.map Ae.cs).flatten
theorem Uw(l:List Ae):(Cc l).length=l.length*7:=by
 induction l with
 |nil=>rfl
 |cons x r ih=>simp[Cc,Ae.cs]at *;omega
theorem OF(l r:List Ae):Cc (l++r)=Cc l++Cc r:=by simp[Cc]
theorem SY:∀u∈Cc l,u.oneCell'=true:=fun u hu=>by
 simp only[Cc,List.mem_flatten,List.mem_map]at hu;obtain⟨_,⟨x,_,rfl⟩,h⟩:=hu;simp only[Ae.cs,List.mem_cons,List.not_mem_nil,or_false]at h;rcases h with rfl|rfl|rfl|rfl|rfl|rfl|rfl<;>rfl
theorem Tv:∀{i:Nat} (hi:i<l.length),(Cc l)[i*7]? =some (.int .i64 (l[i]).id)/\(Cc l)[i*7+1]? =some (.int .i64 (l[i]).b1)/\(Cc l)[i*7+2]? =some ((l[i]).c1.val)/\(Cc l)[i*7+3]? =some (.int .i64 (l[i]).b2)/\(Cc l)[i*7+4]? =some ((l[i]).c2.val)/\(Cc l)[i*7+5]? =some ((l[i]).own.val)/\(Cc l)[i*7+6]? =some (.int .i64 (l[i]).made):=by
 induction l with
 |nil=>intro i hi;simp at hi
 |cons x r ih=>
  intro i hi;have e:Cc (x::r)=Value.int .i64 x.id::Value.int .i64 x.b1::x.c1.val::Value.int .i64 x.b2::x.c2.val::x.own.val::Value.int .i64 x.made::Cc r:=by simp[Cc,Ae.cs]
  rw[e];cases i with
  |zero=>simp
  |succ i=>
   have h:=ih (i:=i) (by simpa using hi);have e1:(i+1)*7=i*7+1+1+1+1+1+1+1:=(by omega);rw[e1];simpa using h
def Dk(w:World)(B:Nat)(v:Value)(l:List Ae):Prop:=w.ownsRow B 42 7 v l.length (Cc l)
def Ae.z:Ae:=⟨0,0,⟨none,0,0,fun _=>0,fun _=>0⟩,0,⟨none,0,0,fun _=>0,fun _=>0⟩,⟨none,0,0,fun _=>0⟩,0⟩
def AY(l:List Ae)(i:Nat):Ae:=l.getD i Ae.z
theorem Dk.nil(w:World)(B:Nat):Dk w B (.slice none 0 0) []:=World.ownsRow_nil _ _ _ _
theorem Dk.made(w:World)(B:Nat)(hb:B<=w.heap.size):Dk (w.alloc (.cells #[] 42)) B (.slice (w.heap.size) 0 0) []:=World.ownsRow_made w #[] 0 hb (Nat.zero_le _) rfl
theorem Dk.shape(h:Dk w B v l):∃a c,v= .slice a l.length c:=CZ h
theorem Dk.grown(h:Dk w B v l)(hg:w.grownBy w' row)(hne:v.ownBlock=none∨v.ownBlock≠row):Dk w' B v l:=World.ownsRow.kept h hg hne
theorem Dk.below(h:Dk w B v l)(hb:Below w.heap.size w w'):Dk w' B v l:=World.ownsRow.kept (row:=none) h ⟨hb.os,hb.tape,hb.output,hb.size,fun k hk _=>hb.block k hk⟩ (by cases v.ownBlock<;>simp)
theorem Dk.base(h:Dk w B v l)(hB:B'<=B):Dk w B' v l:=by
 refine⟨h.1,?_⟩;rcases h.2 with hn|⟨g,cap,cur,hv,hbg,rest⟩
 ·exact .inl hn
 ·exact .inr ⟨g,cap,cur,hv,Nat.le_trans hB hbg,rest⟩
theorem Dk.lies(h:Dk w B (.slice a l.length c) l)(hat:∀x∈l,x.at w):Ic w a l.length (AY l):=fun hn=>by
 obtain⟨b,off,e,hlt,hc⟩:=Bn.own h hn;refine⟨b,off,e,hlt,fun i hi=>?_⟩;have g:=Tv hi;have e1:AY l i=l[i]:=by simp[AY,hi]
 rw[e1];exact⟨⟨by have:=hc _ _ (g.1);exact this,by have:=hc _ _ (g.2.1);rw[<-Nat.add_assoc]at this;exact this,by have:=hc _ _ (g.2.2.1);rw[<-Nat.add_assoc]at this;exact this,by have:=hc _ _ (g.2.2.2.1);rw[<-Nat.add_assoc]at this;exact this,by have:=hc _ _ (g.2.2.2.2.1);rw[<-Nat.add_assoc]at this;exact this,by have:=hc _ _ (g.2.2.2.2.2.1);rw[<-Nat.add_assoc]at this;exact this,by have:=hc _ _ (g.2.2.2.2.2.2);rw[<-Nat.add_assoc]at this;exact this⟩,hat _ (List.getElem_mem hi)⟩
theorem Dk.one(w:World)(x:Ae):Bn (w.alloc (.cells #[.int .i64 x.id,.int .i64 x.b1,x.c1.val,.int .i64 x.b2,x.c2.val,x.own.val,.int .i64 x.made] 42)) (some ⟨w.heap.size,0,none⟩) 1 (Cc [x]):=fun _=>by
 refine⟨w.heap.size,0,rfl,by simp,fun j u hu=>?_⟩;have h:=Ag.new w (.cells #[.int .i64 x.id,.int .i64 x.b1,x.c1.val,.int .i64 x.b2,x.c2.val,x.own.val,.int .i64 x.made] 42);have e:Cc [x]=[.int .i64 x.id,.int .i64 x.b1,x.c1.val,.int .i64 x.b2,x.c2.val,x.own.val,.int .i64 x.made]:=by simp[Cc,Ae.cs]
 rw[e]at hu;rw[Nat.zero_add];refine h.c0 j ?_;rw[<-hu];simp only[List.getElem?_toArray]
theorem IK(w:World)(tt:TypeId)(B:Nat)(v:Value)(l:List Ae)(hown:Dk w B v l)(ad:Option Addr)(c:Nat)(x:Ae)(hc:Bn w ad 1 (Cc [x]))(hn:l.length<=1048576)(hB:B<=w.heap.size):
 ∃a' c' w',(Builtin.append_ #[24,24] tt #[v,.slice ad 1 c]).run prog w= .ok (.slice a' (l.length+1) c') w'/\Dk w' B (.slice a' (l.length+1) c') (l++[x])/\w.grownBy w' v.ownBlock:=by
 obtain⟨a',c',w',h1,h2,h3,_⟩:=GM underlying24 Tryz.info42 rfl (by omega) w tt B v l.length (Cc l) hown ad 1 c (Cc [x]) (Uw [x]) hc SY (by omega) (by omega) hB;refine⟨a',c',w',h1,?_,h3⟩;unfold Dk;rw[List.length_append,OF];exact h2
theorem Km{ops:Array Oper}{rest:List Oper}{oo:Oper}{a:Act}{Q:Exit->Act->World->Prop}(w:World)(hgd:oo.guard=none)(s x:Operand)
 (ho:oo.op= .call {callee:= .builtin .append,args:=#[s,x],argTypes:=#[24,24]})
 (B:Nat)(v:Value)(l:List Ae)(hs:a.eval s=v)(hown:Dk w B v l)(ad:Option Addr)(c:Nat)(y:Ae)(hx:a.eval x= .slice ad 1 c)(hc:Bn w ad 1 (Cc [y]))(hn:l.length<=1048576)(hB:B<=w.heap.size)
 (h:∀a' c' w',Dk w' B (.slice a' (l.length+1) c') (l++[y])->w.grownBy w' v.ownBlock->wpList prog ops Q rest (a.put oo.dst (.slice a' (l.length+1) c')) w'):wpList prog ops Q (oo::rest) a w:=by
 refine wpList_plain hgd fun K hK=>?_;obtain⟨a',c',w',hr,h2,h3⟩:=IK w oo.type B v l hown ad c y hc hn hB;unfold Oper.wp execOp;simp only[ho,resolve,invoke,builtin,Sem.run_bind,Sem.run_pure,Result.andThen_ok,List.map_toArray,List.map_cons,List.map_nil,hs,hx,hr];exact hK _ _ (h a' c' w' h2 h3)
theorem Iq{ops:Array Oper}{oo:Oper}{a:Act}{w:World}{K:Act->World->Prop}{Q:Exit->Act->World->Prop}{E:Prop}(hgd:oo.guard=none)(s x:Operand)
 (ho:oo.op= .call {callee:= .builtin .append,args:=#[s,x],argTypes:=#[24,24]})
 (B:Nat)(v:Value)(l:List Ae)(hs:a.eval s=v)(hown:Dk w B v l)(ad:Option Addr)(c:Nat)(y:Ae)(hx:a.eval x= .slice ad 1 c)(hc:Bn w ad 1 (Cc [y]))(hn:l.length<=1048576)(hB:B<=w.heap.size)
 (h:∀a' c' w',Dk w' B (.slice a' (l.length+1) c') (l++[y])->w.grownBy w' v.ownBlock->K (a.put oo.dst (.slice a' (l.length+1) c')) w'):
 if Region.wanted oo (yielded ops a.tmps)=true then Oper.wp prog oo a w K Q else E:=by
 have hw:Region.wanted oo (yielded ops a.tmps)=true:=by simp[Region.wanted,hgd]
 rw[if_pos hw];obtain⟨a',c',w',hr,h2,h3⟩:=IK w oo.type B v l hown ad c y hc hn hB;unfold Oper.wp execOp;simp only[ho,resolve,invoke,builtin,Sem.run_bind,Sem.run_pure,Result.andThen_ok,List.map_toArray,List.map_cons,List.map_nil,hs,hx,hr];exact h a' c' w' h2 h3
def Ab.cs(v:Ab):List Value:=[.int .i64 v.id,.int .i64 v.kind,.int .i64 v.up,.int .i64 v.b1,v.c1.val,.string v.data,v.jA.val,v.own.val,.int .i64 v.b2,v.c2.val]
def Av(l:List Ab):List Value:=(l.map Ab.cs).flatten
theorem Gf(l:List Ab):(Av l).length=l.length*10:=by
 induction l with
 |nil=>rfl
 |cons x r ih=>simp[Av,Ab.cs]at *;omega
theorem I4(l r:List Ab):Av (l++r)=Av l++Av r:=by simp[Av]
theorem Mc{l:List Ab}:∀u∈Av l,u.oneCell'=true:=fun u hu=>by
 simp only[Av,List.mem_flatten,List.mem_map]at hu;obtain⟨_,⟨x,_,rfl⟩,h⟩:=hu;simp only[Ab.cs,List.mem_cons,List.not_mem_nil,or_false]at h;rcases h with rfl|rfl|rfl|rfl|rfl|rfl|rfl|rfl|rfl|rfl<;>rfl
theorem Mg{l:List Ab}:∀{i:Nat} (hi:i<l.length),(Av l)[i*10]? =some (.int .i64 (l[i]).id)/\(Av l)[i*10+1]? =some (.int .i64 (l[i]).kind)/\(Av l)[i*10+2]? =some (.int .i64 (l[i]).up)/\(Av l)[i*10+3]? =some (.int .i64 (l[i]).b1)/\(Av l)[i*10+4]? =some ((l[i]).c1.val)/\(Av l)[i*10+5]? =some (.string (l[i]).data)/\(Av l)[i*10+6]? =some ((l[i]).jA.val)/\(Av l)[i*10+7]? =some ((l[i]).own.val)/\(Av l)[i*10+8]? =some (.int .i64 (l[i]).b2)/\(Av l)[i*10+9]? =some ((l[i]).c2.val):=by
 induction l with
 |nil=>intro i hi;simp at hi
 |cons x r ih=>
  intro i hi;have e:Av (x::r)=Value.int .i64 x.id::Value.int .i64 x.kind::Value.int .i64 x.up::Value.int .i64 x.b1::x.c1.val::Value.string x.data::x.jA.val::x.own.val::Value.int .i64 x.b2::x.c2.val::Av r:=by simp[Av,Ab.cs]
  rw[e];cases i with
  |zero=>simp
  |succ i=>
   have h:=ih (i:=i) (by simpa using hi);have e1:(i+1)*10=i*10+1+1+1+1+1+1+1+1+1+1:=(by omega);rw[e1];simpa using h
def AM(w:World)(B:Nat)(v:Value)(l:List Ab):Prop:=w.ownsRow B 47 10 v l.length (Av l)
def Ab.z:Ab:=⟨0,0,0,0,⟨none,0,0,fun _=>0,fun _=>0⟩,⟨#[]⟩,⟨none,0,0,fun _=>⟨#[]⟩⟩,⟨none,0,0,fun _=>0⟩,0,⟨none,0,0,fun _=>0,fun _=>0⟩⟩
def Aa(l:List Ab)(i:Nat):Ab:=l.getD i Ab.z
theorem AM.nil(w:World)(B:Nat):AM w B (.slice none 0 0) []:=World.ownsRow_nil _ _ _ _
theorem AM.made(w:World)(B:Nat)(hb:B<=w.heap.size):AM (w.alloc (.cells #[] 47)) B (.slice (w.heap.size) 0 0) []:=World.ownsRow_made w #[] 0 hb (Nat.zero_le _) rfl
theorem AM.shape{l:List Ab}(h:AM w B v l):∃a c,v= .slice a l.length c:=CZ h
theorem AM.grown{l:List Ab}(h:AM w B v l)(hg:w.grownBy w' row)(hne:v.ownBlock=none∨v.ownBlock≠row):AM w' B v l:=World.ownsRow.kept h hg hne
theorem AM.below{l:List Ab}(h:AM w B v l)(hb:Below w.heap.size w w'):AM w' B v l:=World.ownsRow.kept (row:=none) h ⟨hb.os,hb.tape,hb.output,hb.size,fun k hk _=>hb.block k hk⟩ (by cases v.ownBlock<;>simp)
theorem AM.base{l:List Ab}(h:AM w B v l)(hB:B'<=B):AM w B' v l:=by
 refine⟨h.1,?_⟩;rcases h.2 with hn|⟨g,cap,cur,hv,hbg,rest⟩
 ·exact .inl hn
 ·exact .inr ⟨g,cap,cur,hv,Nat.le_trans hB hbg,rest⟩
theorem AM.lies{l:List Ab}(h:AM w B (.slice a l.length c) l)(hat:∀x∈l,x.at w):Hi w a l.length (Aa l):=fun hn=>by
 obtain⟨b,off,e,hlt,hc⟩:=Bn.own h hn;refine⟨b,off,e,hlt,fun i hi=>?_⟩;have g:=Mg hi;have e1:Aa l i=l[i]:=by simp[Aa,hi]
 rw[e1];exact⟨⟨by have:=hc _ _ (g.1);exact this,by have:=hc _ _ (g.2.1);rw[<-Nat.add_assoc]at this;exact this,by have:=hc _ _ (g.2.2.1);rw[<-Nat.add_assoc]at this;exact this,by have:=hc _ _ (g.2.2.2.1);rw[<-Nat.add_assoc]at this;exact this,by have:=hc _ _ (g.2.2.2.2.1);rw[<-Nat.add_assoc]at this;exact this,by have:=hc _ _ (g.2.2.2.2.2.1);rw[<-Nat.add_assoc]at this;exact this,by have:=hc _ _ (g.2.2.2.2.2.2.1);rw[<-Nat.add_assoc]at this;exact this,by have:=hc _ _ (g.2.2.2.2.2.2.2.1);rw[<-Nat.add_assoc]at this;exact this,by have:=hc _ _ (g.2.2.2.2.2.2.2.2.1);rw[<-Nat.add_assoc]at this;exact this,by have:=hc _ _ (g.2.2.2.2.2.2.2.2.2);rw[<-Nat.add_assoc]at this;exact this⟩,hat _ (List.getElem_mem hi)⟩
theorem AM.one(w:World)(x:Ab):Bn (w.alloc (.cells #[.int .i64 x.id,.int .i64 x.kind,.int .i64 x.up,.int .i64 x.b1,x.c1.val,.string x.data,x.jA.val,x.own.val,.int .i64 x.b2,x.c2.val] 47)) (some ⟨w.heap.size,0,none⟩) 1 (Av [x]):=fun _=>by
 refine⟨w.heap.size,0,rfl,by simp,fun j u hu=>?_⟩;have h:=Ag.new w (.cells #[.int .i64 x.id,.int .i64 x.kind,.int .i64 x.up,.int .i64 x.b1,x.c1.val,.string x.data,x.jA.val,x.own.val,.int .i64 x.b2,x.c2.val] 47);have e:Av [x]=[.int .i64 x.id,.int .i64 x.kind,.int .i64 x.up,.int .i64 x.b1,x.c1.val,.string x.data,x.jA.val,x.own.val,.int .i64 x.b2,x.c2.val]:=by simp[Av,Ab.cs]
 rw[e]at hu;rw[Nat.zero_add];refine h.c0 j ?_;rw[<-hu];simp only[List.getElem?_toArray]
theorem Im(w:World)(tt:TypeId)(B:Nat)(v:Value)(l:List Ab)(hown:AM w B v l)(ad:Option Addr)(c:Nat)(x:Ab)(hc:Bn w ad 1 (Av [x]))(hn:l.length<=1048576)(hB:B<=w.heap.size):
 ∃a' c' w',(Builtin.append_ #[25,25] tt #[v,.slice ad 1 c]).run prog w= .ok (.slice a' (l.length+1) c') w'/\AM w' B (.slice a' (l.length+1) c') (l++[x])/\w.grownBy w' v.ownBlock:=by
 obtain⟨a',c',w',h1,h2,h3,_⟩:=GM underlying25 Tryz.info47 rfl (by omega) w tt B v l.length (Av l) hown ad 1 c (Av [x]) (Gf [x]) hc Mc (by omega) (by omega) hB;refine⟨a',c',w',h1,?_,h3⟩;unfold AM;rw[List.length_append,I4];exact h2
theorem Cx{ops:Array Oper}{rest:List Oper}{oo:Oper}{a:Act}{Q:Exit->Act->World->Prop}(w:World)(hgd:oo.guard=none)(s x:Operand)
 (ho:oo.op= .call {callee:= .builtin .append,args:=#[s,x],argTypes:=#[25,25]})
 (B:Nat)(v:Value)(l:List Ab)(hs:a.eval s=v)(hown:AM w B v l)(ad:Option Addr)(c:Nat)(y:Ab)(hx:a.eval x= .slice ad 1 c)(hc:Bn w ad 1 (Av [y]))(hn:l.length<=1048576)(hB:B<=w.heap.size)
 (h:∀a' c' w',AM w' B (.slice a' (l.length+1) c') (l++[y])->w.grownBy w' v.ownBlock->wpList prog ops Q rest (a.put oo.dst (.slice a' (l.length+1) c')) w'):wpList prog ops Q (oo::rest) a w:=by
 refine wpList_plain hgd fun K hK=>?_;obtain⟨a',c',w',hr,h2,h3⟩:=Im w oo.type B v l hown ad c y hc hn hB;unfold Oper.wp execOp;simp only[ho,resolve,invoke,builtin,Sem.run_bind,Sem.run_pure,Result.andThen_ok,List.map_toArray,List.map_cons,List.map_nil,hs,hx,hr];exact hK _ _ (h a' c' w' h2 h3)
theorem FP{ops:Array Oper}{oo:Oper}{a:Act}{w:World}{K:Act->World->Prop}{Q:Exit->Act->World->Prop}{E:Prop}(hgd:oo.guard=none)(s x:Operand)
 (ho:oo.op= .call {callee:= .builtin .append,args:=#[s,x],argTypes:=#[25,25]})
 (B:Nat)(v:Value)(l:List Ab)(hs:a.eval s=v)(hown:AM w B v l)(ad:Option Addr)(c:Nat)(y:Ab)(hx:a.eval x= .slice ad 1 c)(hc:Bn w ad 1 (Av [y]))(hn:l.length<=1048576)(hB:B<=w.heap.size)
 (h:∀a' c' w',AM w' B (.slice a' (l.length+1) c') (l++[y])->w.grownBy w' v.ownBlock->K (a.put oo.dst (.slice a' (l.length+1) c')) w'):
 if Region.wanted oo (yielded ops a.tmps)=true then Oper.wp prog oo a w K Q else E:=by
 have hw:Region.wanted oo (yielded ops a.tmps)=true:=by simp[Region.wanted,hgd]
 rw[if_pos hw];obtain⟨a',c',w',hr,h2,h3⟩:=Im w oo.type B v l hown ad c y hc hn hB;unfold Oper.wp execOp;simp only[ho,resolve,invoke,builtin,Sem.run_bind,Sem.run_pure,Result.andThen_ok,List.map_toArray,List.map_cons,List.map_nil,hs,hx,hr];exact h a' c' w' h2 h3
section
variable {P:Program}{ops:Array Oper}{Q:Exit->Act->World->Prop}{md:Region.Mode}{S:World->Prop}{m:Nat}
def Ch(P:Program)(md:Region.Mode)(ops:Array Oper)(Q:Exit->Act->World->Prop)(S:World->Prop)(m:Nat):Nat->Array Bool->Act->World->Prop
 |0,listed,a,w=>Region.ready md ops listed=[]/\Q .normal a w
 |fuel+1,listed,a,w=>
  (Region.ready md ops listed=[]->Q .normal a w)/\
  ∀i∈Region.ready md ops listed,wpOp P ops Q i (fun a' w'=>((listed.setIfInBounds i true).getD m false=false->S w')/\Ch P md ops Q S m fuel (listed.setIfInBounds i true) a' w') a w
theorem MG:∀(fuel:Nat) (listed:Array Bool) (a:Act) (w:World),Ch P md ops Q S m fuel listed a w->wpAny P md ops Q fuel listed a w
 |0,_,_,_,h=>h
 |fuel+1,_,_,_,h=>⟨h.1,fun i hi=>wpOp_mono (fun a' w' h'=>MG fuel _ a' w' h'.2) (h.2 i hi)⟩
def waits(md:Region.Mode)(ops:Array Oper)(m i:Nat):Bool:=match ops[m]? with
 |some o=>o.after.any fun e=>Region.binds md e&&(e.on==i)
 |none=>false
theorem QK{i:Nat}{oi:Oper}{v:Value}(hi:ops[i]? =some oi)(hsel:∀(j:Nat) (o:Oper) cs b,ops[j]? =some o->o.op≠ .select cs b)
 (hQ:∀c a w,Q (.panic c) (a.put oi.dst v) w->Q (.panic c) a w)(hwait:(waits md ops m i||decide (ops.size<=m))=true)(him:i≠m):
 ∀(fuel:Nat) (listed:Array Bool) (a:Act) (w:World),
  (∀j oj,ops[j]? =some oj->j≠i->listed.getD j true=false->(∀e∈oj.after,Region.binds md e=true->e.on≠i)->oi.apart ops oj=true)->
  i∈Region.ready md ops listed->YieldsIf P ops S oi v a->S w->listed.getD m false=false->
  Ch P md ops Q S m fuel (listed.setIfInBounds i true) (a.put oi.dst v) w->Ch P md ops Q S m (fuel+1) listed a w:=by
 intro fuel;induction fuel with
 |zero=>
  intro listed a w _ hr hy hS _ H;refine⟨fun h=>(by rw[h]at hr;cases hr),fun j hj=>?_⟩;by_cases hji:j=i
  ·subst hji;exact hy.wpOp hi hS ⟨fun _=>hS,H⟩
  ·have:=ready_mono hj hji;rw[H.1]at this;cases this
 |succ fuel ih=>
  intro listed a w hfree hr hy hS hm H;refine⟨fun h=>(by rw[h]at hr;cases hr),fun j hj=>?_⟩;by_cases hji:j=i
  ·subst hji;exact hy.wpOp hi hS ⟨fun _=>hS,H⟩
  ·have h1:=H.2 j (ready_mono hj hji);obtain⟨hjun,oj,hoj,hall⟩:=mem_ready.1 hj;have hnot:∀e∈oj.after,Region.binds md e=true->e.on≠i:=fun e he hb heq=>by
    have h1:=hall e he hb;have h0:=(mem_ready.1 hr).1;rw[heq]at h1;rcases Nat.lt_or_ge i listed.size with h'|h'
    ·simp[h']at h0 h1;rw[h0]at h1;cases h1
    ·simp[Array.getElem?_eq_none h']at h1
   have hjm:j≠m:=fun e=>by
    subst e;simp only[Bool.or_eq_true,decide_eq_true_eq]at hwait;rcases hwait with hwait|hwait;rotate_left
    ·have:=(Array.getElem?_eq_some_iff.1 hoj).1;omega
    unfold waits at hwait;rw[hoj]at hwait;simp only[Array.any_eq_true]at hwait;obtain⟨x,hx,hb⟩:=hwait;simp only[Bool.and_eq_true,beq_iff_eq]at hb;exact hnot _ (Array.getElem_mem hx) hb.1 hb.2
   have h2:=wpOp_putIf hoj (hfree j oj hoj hji hjun hnot) (fun cs b=>hsel i oi cs b hi) (fun cs b=>hsel j oj cs b hoj) hQ hy h1;have hfree':∀k ok,ops[k]? =some ok->k≠i->(listed.setIfInBounds j true).getD k true=false->
    (∀e∈ok.after,Region.binds md e=true->e.on≠i)->oi.apart ops ok=true:=fun k ok hk hki hun hno=>by
    refine hfree k ok hk hki ?_ hno;by_cases hjk:j=k
    ·subst hjk;exact hjun
    ·rw[getD_set_ne true hjk]at hun;exact hun
   have hm2:(listed.setIfInBounds j true).getD m false=false:=(by rw[getD_set_ne false hjm];exact hm);have hm3:((listed.setIfInBounds i true).setIfInBounds j true).getD m false=false:=(by rw[getD_set_ne false hjm,getD_set_ne false him];exact hm);refine wpOp_mono (fun a' w' h3=>⟨fun _=>h3.2.1 hm3,ih (listed.setIfInBounds j true) a' w' hfree' (ready_mono hr (Ne.symm hji)) h3.1 (h3.2.1 hm3) hm2 ?_⟩) h2;rw[Array.setIfInBounds_comm _ _ hji];exact h3.2.2
theorem RS{i:Nat}{oi:Oper}{v:Value}{fuel:Nat}{listed:Array Bool}{a:Act}{w:World}(hi:ops[i]? =some oi)
 (hs:Region.noSelect ops=true)(hf:Region.free md ops listed i=true)(hr:(Region.ready md ops listed).contains i=true)
 (hwait:(waits md ops m i||decide (ops.size<=m))=true)(him:(i==m)=false)(hm:listed.getD m false=false)
 (hQ:∀c a w,Q (.panic c) (a.put oi.dst v) w->Q (.panic c) a w)(hy:YieldsIf P ops S oi v a)(hS:S w)
 (h:Ch P md ops Q S m fuel (listed.setIfInBounds i true) (a.put oi.dst v) w):Ch P md ops Q S m (fuel+1) listed a w:=
 QK hi (Region.noSelect_spec hs) hQ hwait (by simpa using him) fuel listed a w (Region.free_spec hi hf) (by simpa using hr) hy hS hm h
theorem Bb{i d:Nat}{oi:Oper}(v:Value){fuel:Nat}{listed:Array Bool}{a:Act}{w:World}(hi:ops[i]? =some oi)(hd:oi.dst=some d)
 (hs:Region.noSelect ops=true)(hf:Region.free md ops listed i=true)(hr:(Region.ready md ops listed).contains i=true)
 (hwait:(waits md ops m i||decide (ops.size<=m))=true)(him:(i==m)=false)(hm:listed.getD m false=false)
 (hQ:∀c a w,Q (.panic c) (a.put (some d) v) w->Q (.panic c) a w)(hy:YieldsIf P ops S oi v a)(hS:S w)
 (h:Ch P md ops Q S m fuel (listed.setIfInBounds i true) (a.put (some d) v) w):Ch P md ops Q S m (fuel+1) listed a w:=
 RS hi hs hf hr hwait him hm (by rw[hd];exact hQ) hy hS (by rw[hd];exact h)
theorem R6{i d:Nat}{oi:Oper}{fuel:Nat}{listed:Array Bool}{a:Act}{w:World}(hi:ops[i]? =some oi)(hd:oi.dst=some d)
 (hs:Region.noSelect ops=true)(hf:Region.free md ops listed i=true)(hr:(Region.ready md ops listed).contains i=true)
 (hwait:(waits md ops m i||decide (ops.size<=m))=true)(him:(i==m)=false)(hm:listed.getD m false=false)
 (hQ:∀c a w,Q (.panic c) (a.put (some d) undef) w->Q (.panic c) a w)(hun:Region.wanted oi (yielded ops a.tmps)=false)(hS:S w)
 (h:Ch P md ops Q S m fuel (listed.setIfInBounds i true) (a.put (some d) undef) w):Ch P md ops Q S m (fuel+1) listed a w:=
 Bb undef hi hd hs hf hr hwait him hm hQ (Or.inr ⟨hun,rfl⟩) hS h
theorem Ac{i:Nat}{o:Oper}{fuel:Nat}{listed:Array Bool}{a:Act}{w:World}(hr:Region.ready md ops listed=[i])(ho:ops[i]? =some o)
 (h:∀K':Act->World->Prop,Shut (∀a w,((listed.setIfInBounds i true).getD m false=false->S w)->Ch P md ops Q S m fuel (listed.setIfInBounds i true) a w->K' a w)->if Region.wanted o (yielded ops a.tmps)=true then Oper.wp P o a w K' Q else K' (a.put o.dst undef) w):
 Ch P md ops Q S m (fuel+1) listed a w:=
 ⟨fun h0=>(by rw[hr]at h0;cases h0),fun j hj=>by
   rw[hr]at hj;obtain rfl:=List.mem_singleton.1 hj;exact wpOp_step ho (fun K' hK=>h K' (fun a w hS hW=>hK a w ⟨hS,hW⟩))⟩
theorem Aj{listed:Array Bool}{a:Act}{w:World}(hr:Region.ready md ops listed=[])(h:Q .normal a w):
 ∀fuel,Ch P md ops Q S m fuel listed a w
 |0=>⟨hr,h⟩
 |_+1=>⟨fun _=>h,by rw[hr];simp⟩
theorem Am{id:Nat}{a:Act}{w:World}(m:Nat)(S:World->Prop)(hm:P.follows .mixedOrders=true)
 (h:Ch P .any ops Q S m ops.size (Array.replicate ops.size false) a w.drew):(Code.region id ops true).wp P Q a w:=
 wp_region_any hm (MG _ _ _ _ h)
end
theorem Ax{ops:Array Oper}{o:Oper}{a:Act}{w:World}{K:Act->World->Prop}{Q:Exit->Act->World->Prop}{E:Prop}(hw:Region.wanted o (yielded ops a.tmps)=true)(f:Nat)(x:Operand)(ats:Array TypeId)
 (ho:o.op= .call {callee:= .value (.func f),args:=#[x],argTypes:=ats})(eg:∀args w,(callFunc f args).run prog w= .ok (.enter f args) w)(v0:Value)(hv:a.eval x=v0)
 (d:Option Nat)(hd:o.dst=d)(R:Value->World->Prop)(hc:Calls prog f #[v0] w fun e w'=>∃v,e= .returned v/\R v w')(h:∀v w',R v w'->K (a.put d v) w'):
 if Region.wanted o (yielded ops a.tmps)=true then Oper.wp prog o a w K Q else E:=by
 rw[if_pos hw];have e:(execOp a.eval o).run prog w= .ok (.enter f #[v0]) w:=by
  unfold execOp;simp only[ho,resolve,invoke,Sem.run_bind,List.map_toArray,List.map_cons,List.map_nil,hv];simp[go_sem,eg,Act.eval]
 unfold Oper.wp;rw[e,Oper.upon_enter];exact hc.mono fun e w' ⟨v,he,hr⟩=>by subst he;rw[hd];exact h v w' hr
theorem AJ{ops:Array Oper}{o:Oper}{a:Act}{w:World}{K:Act->World->Prop}{Q:Exit->Act->World->Prop}{E:Prop}(hw:Region.wanted o (yielded ops a.tmps)=true)(f:Nat)(x y:Operand)(ats:Array TypeId)
 (ho:o.op= .call {callee:= .value (.func f),args:=#[x,y],argTypes:=ats})(eg:∀args w,(callFunc f args).run prog w= .ok (.enter f args) w)(v0 v1:Value)(hv:a.eval x=v0)(hv1:a.eval y=v1)
 (d:Option Nat)(hd:o.dst=d)(R:Value->World->Prop)(hc:Calls prog f #[v0,v1] w fun e w'=>∃v,e= .returned v/\R v w')(h:∀v w',R v w'->K (a.put d v) w'):
 if Region.wanted o (yielded ops a.tmps)=true then Oper.wp prog o a w K Q else E:=by
 rw[if_pos hw];have e:(execOp a.eval o).run prog w= .ok (.enter f #[v0,v1]) w:=by
  unfold execOp;simp only[ho,resolve,invoke,Sem.run_bind,List.map_toArray,List.map_cons,List.map_nil,hv,hv1];simp[go_sem,eg,Act.eval]
 unfold Oper.wp;rw[e,Oper.upon_enter];exact hc.mono fun e w' ⟨v,he,hr⟩=>by subst he;rw[hd];exact h v w' hr
theorem C8{ops:Array Oper}{o:Oper}{a:Act}{w:World}{K:Act->World->Prop}{Q:Exit->Act->World->Prop}{E:Prop}(hw:Region.wanted o (yielded ops a.tmps)=true)(f:Nat)(x y z:Operand)(ats:Array TypeId)
 (ho:o.op= .call {callee:= .value (.func f),args:=#[x,y,z],argTypes:=ats})(eg:∀args w,(callFunc f args).run prog w= .ok (.enter f args) w)(v0 v1 v2:Value)(hv:a.eval x=v0)(hv1:a.eval y=v1)(hv2:a.eval z=v2)
 (d:Option Nat)(hd:o.dst=d)(R:Value->World->Prop)(hc:Calls prog f #[v0,v1,v2] w fun e w'=>∃v,e= .returned v/\R v w')(h:∀v w',R v w'->K (a.put d v) w'):
 if Region.wanted o (yielded ops a.tmps)=true then Oper.wp prog o a w K Q else E:=by
 rw[if_pos hw];have e:(execOp a.eval o).run prog w= .ok (.enter f #[v0,v1,v2]) w:=by
  unfold execOp;simp only[ho,resolve,invoke,Sem.run_bind,List.map_toArray,List.map_cons,List.map_nil,hv,hv1,hv2];simp[go_sem,eg,Act.eval]
 unfold Oper.wp;rw[e,Oper.upon_enter];exact hc.mono fun e w' ⟨v,he,hr⟩=>by subst he;rw[hd];exact h v w' hr
theorem ap(l:List Value)(ds:List Deferred)(d:Nat)(v:Value):Act.put ⟨l.toArray,ds⟩ (some d) v=⟨(l.set d v).toArray,ds⟩:=by
 simp only[Act.put,List.setIfInBounds_toArray]
def Ti(md:Region.Mode)(ops:Array Oper)(m:Nat)(listed:Array Bool)(i:Nat):Bool:=
 Region.noSelect ops&&Region.free md ops listed i&&(Region.ready md ops listed).contains i&&(waits md ops m i||decide (ops.size<=m))&& !(i==m)&& !listed.getD m false
section
variable {P:Program}{md:Region.Mode}{ops:Array Oper}{Q:Exit->Act->World->Prop}{S:World->Prop}{m:Nat}
theorem tk(i d:Nat){oi:Oper}(v:Value){fuel:Nat}{listed:Array Bool}{a:Act}{w:World}(hi:ops[i]? =some oi)(hd:oi.dst=some d)(hk:Ti md ops m listed i=true)
 (hw:Region.wanted oi (yielded ops a.tmps)=true)(hy:∀W,S W->(execOp a.eval oi).run P W= .ok (.value v) W)(hS:S w)
 (h:Ch P md ops Q S m fuel (listed.setIfInBounds i true) (a.put (some d) v) w)(hQ:∀c a w,Q (.panic c) (a.put (some d) v) w->Q (.panic c) a w:=by exact fun _ _ _=>id):Ch P md ops Q S m (fuel+1) listed a w:=by
 unfold Ti at hk;simp only[Bool.and_eq_true,Bool.not_eq_true']at hk;obtain⟨⟨⟨⟨⟨h1,h2⟩,h3⟩,h4⟩,h5⟩,h6⟩:=hk;exact Bb v hi hd h1 h2 h3 h4 h5 h6 hQ (Or.inl ⟨hw,hy⟩) hS h
theorem sk(i d:Nat){oi:Oper}{fuel:Nat}{listed:Array Bool}{a:Act}{w:World}(hi:ops[i]? =some oi)(hd:oi.dst=some d)(hk:Ti md ops m listed i=true)
 (hun:Region.wanted oi (yielded ops a.tmps)=false)(hS:S w)
 (h:Ch P md ops Q S m fuel (listed.setIfInBounds i true) (a.put (some d) undef) w)(hQ:∀c a w,Q (.panic c) (a.put (some d) undef) w->Q (.panic c) a w:=by exact fun _ _ _=>id):Ch P md ops Q S m (fuel+1) listed a w:=by
 unfold Ti at hk;simp only[Bool.and_eq_true,Bool.not_eq_true']at hk;obtain⟨⟨⟨⟨⟨h1,h2⟩,h3⟩,h4⟩,h5⟩,h6⟩:=hk;exact R6 hi hd h1 h2 h3 h4 h5 h6 hQ hun hS h
theorem tq(i d:Nat){oi:Oper}(v:Value){fuel:Nat}{listed:Array Bool}{a:Act}{w:World}(hS:S w)
 (h:Ch P md ops Q S m fuel (listed.setIfInBounds i true) (a.put (some d) v) w)
 (hi:ops[i]? =some oi:=by rfl)(hd:oi.dst=some d:=by rfl)(hk:Ti md ops m listed i=true:=by kernel_rfl)
 (hw:Region.wanted oi (yielded ops a.tmps)=true:=by rfl)(hy:∀W,S W->(execOp a.eval oi).run P W= .ok (.value v) W:=by intro W h;go_simp)
 (hQ:∀c a w,Q (.panic c) (a.put (some d) v) w->Q (.panic c) a w:=by exact fun _ _ _=>id):Ch P md ops Q S m (fuel+1) listed a w:=
 tk i d v hi hd hk hw hy hS h hQ
theorem tr(i d:Nat){oi:Oper}(v:Value){fuel:Nat}{listed:Array Bool}{a a':Act}{w:World}(hS:S w)
 (h:Ch P md ops Q S m fuel (listed.setIfInBounds i true) a' w)
 (hi:ops[i]? =some oi:=by rfl)(hd:oi.dst=some d:=by rfl)(hk:Ti md ops m listed i=true:=by kernel_rfl)
 (hw:Region.wanted oi (yielded ops a.tmps)=true:=by rfl)(hy:∀W,S W->(execOp a.eval oi).run P W= .ok (.value v) W:=by intro W h;go_simp)
 (ha:a.put (some d) v=a':=by simp only[ap,List.set];exact rfl)
 (hQ:∀c a w,Q (.panic c) (a.put (some d) v) w->Q (.panic c) a w:=by exact fun _ _ _=>id):Ch P md ops Q S m (fuel+1) listed a w:=
 tk i d v hi hd hk hw hy hS (by rw[ha];exact h) hQ
def Xo(md:Region.Mode)(ops:Array Oper)(m:Nat):List (Nat×Nat)->Array Bool->Array Value->Bool
 |[],_,_=>true
 |(i,d)::l,listed,t=>(match ops[i]? with
  |some oi=>Ti md ops m listed i&&decide (oi.dst=some d)&& !Region.wanted oi (yielded ops t)
  |none=>false)&&Xo md ops m l (listed.setIfInBounds i true) (t.setIfInBounds d undef)
def Zt:List (Nat×Nat)->Array Bool->Array Bool
 |[],s=>s
 |(i,_)::l,s=>Zt l (s.setIfInBounds i true)
def Et:List (Nat×Nat)->Act->Act
 |[],a=>a
 |(_,d)::l,a=>Et l (a.put (some d) undef)
theorem Oh(n:Nat)(l:List (Nat×Nat)){fuel:Nat}{listed:Array Bool}{a:Act}{w:World}(hn:l.length=n)(hk:Xo md ops m l listed a.tmps=true)(hS:S w)
 (h:Ch P md ops Q S m fuel (Zt l listed) (Et l a) w)(hQ:∀c t t' ds w,Q (.panic c) ⟨t',ds⟩ w->Q (.panic c) ⟨t,ds⟩ w:=by exact fun _ _ _ _ _=>id):Ch P md ops Q S m (fuel+n) listed a w:=by
 subst hn;induction l generalizing listed a with
 |nil=>exact h
 |cons x l ih=>
  obtain⟨i,d⟩:=x;simp only[Xo,Bool.and_eq_true]at hk;obtain⟨h1,h2⟩:=hk;cases e:ops[i]? with
  |none=>rw[e]at h1;cases h1
  |some oi=>
   rw[e]at h1;simp only[Bool.and_eq_true,decide_eq_true_eq,Bool.not_eq_true']at h1;refine sk i d e h1.1.2 h1.1.1 h1.2 hS (ih ?_ h) (fun c a w=>hQ c _ _ _ w);exact h2
end
variable {w:World}{t:Ab}{k:AF}{a:Option Addr}{n:Nat}
theorem Aw.row.at{c:Aw}(h:c.row w)(hs:c.small):c.at w:=by
 obtain⟨b,e,hr⟩:=h;refine⟨by unfold maxLen;have:=hs.1;omega,fun _=>⟨b,0,e,hr.lt,fun i hi=>?_⟩,fun i hi=>by unfold maxLen;have:=hs.2 i hi;omega⟩;rw[Nat.zero_add];exact hr.cell hi
theorem Ab.row.at(h:t.row w)(hs:t.small):t.at w:=by
 obtain⟨⟨b1,e1,r1⟩,r2,⟨b3,e3,r3⟩,⟨b4,e4,r4⟩⟩:=h;obtain⟨s1,s2,s3,s4,s5⟩:=hs;refine⟨⟨by unfold maxLen;omega,?_⟩,Aw.row.at r2 s3,⟨by unfold maxLen;omega,?_⟩,⟨by unfold maxLen;omega,?_⟩,by unfold maxLen;omega⟩
 ·rw[e1];exact AX.row r1
 ·rw[e3];exact Bi.row r3
 ·rw[e4];exact AX.row r4
theorem Ae.same.small{t u:Ae}(h:t.same u)(hs:t.small):u.small:=by
 obtain⟨_,_,⟨e1,_⟩,_,⟨e2,_⟩,⟨e3,_⟩,_⟩:=h;unfold Ae.small at *;rw[e1,e2,e3];exact hs
theorem Ab.same.small{u:Ab}(h:t.same u)(hs:t.small):u.small:=by
 obtain⟨_,_,_,_,⟨e1,_⟩,e2,⟨e3,e4⟩,⟨e5,_⟩,_,⟨e6,_⟩⟩:=h;unfold Ab.small Aw.small at *;rw[e1,e2,e3,e4,e5,e6];exact hs
theorem AF.same.small{l:AF}(h:k.same l)(hs:k.small):l.small:=by
 obtain⟨e1,h1,e2,h2⟩:=h;obtain⟨⟨n1,s1⟩,⟨n2,s2⟩⟩:=hs;unfold AF.small;rw[e1,e2];exact⟨⟨n1,fun i hi=>Ae.same.small (h1 i hi) (s1 i hi)⟩,⟨n2,fun i hi=>Ab.same.small (h2 i hi) (s2 i hi)⟩⟩
theorem bL.cells{b ty N:Nat}{G:Nat->Value}{o:Nat}(hr:w.rowIs b ty N G)(h:bL G o t)(ho:o+10<=N):Cy w b o t:=
 ⟨(hr.cell (by omega)).trans (congrArg some h.g0),(hr.cell (by omega)).trans (congrArg some h.g1),(hr.cell (by omega)).trans (congrArg some h.g2),(hr.cell (by omega)).trans (congrArg some h.g3),(hr.cell (by omega)).trans (congrArg some h.g4),(hr.cell (by omega)).trans (congrArg some h.g5),(hr.cell (by omega)).trans (congrArg some h.g6),(hr.cell (by omega)).trans (congrArg some h.g7),(hr.cell (by omega)).trans (congrArg some h.g8),(hr.cell (by omega)).trans (congrArg some h.g9)⟩
theorem Hl.at{T:Nat->Ae}(h:Hl w a n T)(hs:∀i,i<n->(T i).small):Ic w a n T:=fun _=>by
 obtain⟨b,G,e,hr,hj⟩:=h;refine⟨b,0,e,hr.lt,fun i hi=>⟨?_,Ae.row.at (hj i hi).2 (hs i hi)⟩⟩;rw[Nat.zero_add];exact G7.cells hr (hj i hi).1 (by omega)
theorem Hd.at{T:Nat->Ab}(h:Hd w a n T)(hs:∀i,i<n->(T i).small):Hi w a n T:=fun _=>by
 obtain⟨b,G,e,hr,hj⟩:=h;refine⟨b,0,e,hr.lt,fun i hi=>⟨?_,Ab.row.at (hj i hi).2 (hs i hi)⟩⟩;rw[Nat.zero_add];exact bL.cells hr (hj i hi).1 (by omega)
theorem AF.row.at(h:k.row w)(hs:k.small):k.at w:=
 ⟨by unfold maxLen;have:=hs.1.1;omega,by unfold maxLen;have:=hs.2.1;omega,Hl.at h.1 hs.1.2,Hd.at h.2 hs.2.2⟩

def Ab.blk(t:Ab):Obj:= .cells #[t.id,t.kind,t.up,t.b1,t.c1.val,.string t.data,t.jA.val,t.own.val,t.b2,t.c2.val] 47

theorem one_byte(w:World)(x:Int)(h0:0<=x)(h1:x<256):
 (convert 22 9 (Value.slice (w) 1 1)).run prog (w.alloc (.cells #[.int .u8 x] 5))= .ok (.string ⟨#[UInt8.ofNat x.toNat]⟩) (w.alloc (.cells #[.int .u8 x] 5)):=by
 refine run_convert_bytes_back (P:=prog) (w.alloc (.cells #[.int .u8 x] 5)) 22 9 5 ⟨w,0,none⟩ 1 [UInt8.ofNat x.toNat] underlying22 underlying5 underlying9 fun j hj=>?_;obtain rfl:j=0:=by simpa using hj
 have e:(((UInt8.ofNat x.toNat).toNat:Nat):Int)=x:=by
  rw[UInt8.toNat_ofNat_of_lt' (by simp[UInt8.size];omega)];omega
 simp only[List.getElem_cons_zero,e];simp[Addr.add]
theorem JP(b:UInt8)(l:List UInt8):((⟨#[b]⟩:ByteArray)++(⟨l.toArray⟩:ByteArray))=⟨(b::l).toArray⟩:=by
 apply ByteArray.ext;apply Array.ext';simp
variable {lo hi:Nat}
structure Mk(lo hi:Nat)(w w':World):Prop where
 os:w'.os=w.os
 tape:w'.tape=w.tape
 output:w'.output=w.output
 size:w.heap.size<=w'.heap.size
 block:∀k,k<w.heap.size->(k<lo∨hi<=k)->w'.heap[k]? =w.heap[k]?
 rows:∀b ty m F,w.rowIs b ty m F->∃F',w'.rowIs b ty m F'
theorem Mk.refl(lo hi:Nat)(w:World):Mk lo hi w w:=⟨rfl,rfl,rfl,Nat.le_refl _,fun _ _ _=>rfl,fun _ _ _ F h=>⟨F,h⟩⟩
theorem Mk.trans{a b c:World}(h:Mk lo hi a b)(k:Mk lo hi b c):Mk lo hi a c:=
 ⟨k.os.trans h.os,k.tape.trans h.tape,k.output.trans h.output,Nat.le_trans h.size k.size,fun j hj hn=>(k.block j (Nat.lt_of_lt_of_le hj h.size) hn).trans (h.block j hj hn),fun b ty m F hF=>by
   obtain⟨F',h'⟩:=h.rows b ty m F hF;exact k.rows b ty m F' h'⟩
theorem Mk.set{w wr:World}(h:Mk lo hi w wr){b:Nat}(h1:lo<=b)(h2:b<hi)(i:Nat)(v:Value):Mk lo hi w (wr.setCell ⟨b,i,none⟩ v):=
 ⟨h.os,h.tape,h.output,by rw[nblk_setCell];exact h.size,fun k hk hn=>(blk_setCell_other _ _ _ _ (by dsimp only;omega)).trans (h.block k hk hn),fun b' ty m F hF=>by
   obtain⟨F',h'⟩:=h.rows b' ty m F hF;by_cases e:b'=b
   ·subst e;exact⟨_,h'.set i v⟩
   ·exact⟨F',h'.setOther (a:=⟨b,i,none⟩) e v⟩⟩


end Go.Proofs.YtbdagpckhfcneaaGreatDoor
