import Derived.Test.YtbacmamplkdgaaaGreatDoorZ15b
namespace Go.Proofs.YtbacmamplkdgaaaGreatDoor
open Go Go.RowKit Go.Deep Go.Maps Go.BigFrame Go.Shelf
theorem want6(W:World):Calls Tryz.prog 172 #[.int .i64 6] W fun e w'=>∃x,e= .returned x∧(x= .int .i64 1∧Below W.heap.size W w'):=by
 go_enter Tryz.func172,Tryz.ntmps172
 go_wp2;go_ret;exact⟨_,rfl,rfl,Below.refl _ _⟩
theorem want7(W:World):Calls Tryz.prog 172 #[.int .i64 7] W fun e w'=>∃x,e= .returned x∧(x= .int .i64 1∧Below W.heap.size W w'):=by
 go_enter Tryz.func172,Tryz.ntmps172
 go_wp2;go_ret;exact⟨_,rfl,rfl,Below.refl _ _⟩
theorem want8(W:World):Calls Tryz.prog 172 #[.int .i64 8] W fun e w'=>∃x,e= .returned x∧(x= .int .i64 1∧Below W.heap.size W w'):=by
 go_enter Tryz.func172,Tryz.ntmps172
 go_wp2;go_ret;exact⟨_,rfl,rfl,Below.refl _ _⟩
theorem want9(W:World):Calls Tryz.prog 172 #[.int .i64 9] W fun e w'=>∃x,e= .returned x∧(x= .int .i64 2∧Below W.heap.size W w'):=by
 go_enter Tryz.func172,Tryz.ntmps172
 go_wp2;go_ret;exact⟨_,rfl,rfl,Below.refl _ _⟩
theorem want10(W:World):Calls Tryz.prog 172 #[.int .i64 10] W fun e w'=>∃x,e= .returned x∧(x= .int .i64 2∧Below W.heap.size W w'):=by
 go_enter Tryz.func172,Tryz.ntmps172
 go_wp2;go_ret;exact⟨_,rfl,rfl,Below.refl _ _⟩
theorem want13(W:World):Calls Tryz.prog 172 #[.int .i64 13] W fun e w'=>∃x,e= .returned x∧(x= .int .i64 4∧Below W.heap.size W w'):=by
 go_enter Tryz.func172,Tryz.ntmps172
 go_wp2;go_ret;exact⟨_,rfl,rfl,Below.refl _ _⟩
theorem want15(W:World):Calls Tryz.prog 172 #[.int .i64 15] W fun e w'=>∃x,e= .returned x∧(x= .int .i64 3∧Below W.heap.size W w'):=by
 go_enter Tryz.func172,Tryz.ntmps172
 go_wp2;go_ret;exact⟨_,rfl,rfl,Below.refl _ _⟩
theorem KSt.setData{w:World}{B g co:Nat}{vt:Value}{lt:List ThrV}{lo:List ObjV}(h:KSt w B vt (.slice (some ⟨g,0,none⟩) lo.length co) lt lo){u:Nat}{d:ByteArray}(hu:u<lo.length){o:ObjV}(ho:o=lo[u]):
 KSt (w.setCell ⟨g,u*10+5,none⟩ (.string d)) B vt (.slice (some ⟨g,0,none⟩) lo.length co) lt (lo.set u ⟨o.id,o.kind,o.up,o.b1,o.c1,d,o.items,o.own,o.b2,o.c2⟩)∧(∃cur,Blk w g (.cells cur 42))∧B≤g:=by
 have hn:=h.on _ (List.getElem_mem hu);have hc:=h.oc _ (List.getElem_mem hu);rw[←ho]at hn hc;obtain⟨k1,hcur,hg⟩:=h.setO (x:=⟨o.id,o.kind,o.up,o.b1,o.c1,d,o.items,o.own,o.b2,o.c2⟩) (u:= .string d) hu (i:=5) (by omega) (by rw[←ho];rfl) hn hc;have el:(lo.set u (⟨o.id,o.kind,o.up,o.b1,o.c1,d,o.items,o.own,o.b2,o.c2⟩:ObjV)).length=lo.length:=by simp
 rw[el]at k1;exact⟨k1,hcur,hg⟩
theorem KSt.setItems{w:World}{B g co:Nat}{vt:Value}{lt:List ThrV}{lo:List ObjV}(h:KSt w B vt (.slice (some ⟨g,0,none⟩) lo.length co) lt lo){u:Nat}{d:StrL}(hu:u<lo.length){o:ObjV}(ho:o=lo[u])(hd:d.new B w)(hdc:d.n≤d.k∧d.k≤maxLen):
 KSt (w.setCell ⟨g,u*10+6,none⟩ (.slice d.a d.n d.k)) B vt (.slice (some ⟨g,0,none⟩) lo.length co) lt (lo.set u ⟨o.id,o.kind,o.up,o.b1,o.c1,o.data,d,o.own,o.b2,o.c2⟩)∧(∃cur,Blk w g (.cells cur 42))∧B≤g:=by
 have hn:=h.on _ (List.getElem_mem hu);have hc:=h.oc _ (List.getElem_mem hu);rw[←ho]at hn hc;obtain⟨k1,hcur,hg⟩:=h.setO (x:=⟨o.id,o.kind,o.up,o.b1,o.c1,o.data,d,o.own,o.b2,o.c2⟩) (u:= .slice d.a d.n d.k) hu (i:=6) (by omega) (by rw[←ho];rfl) ⟨hn.1,hd,hn.2.2.1,hn.2.2.2⟩ hdc;have el:(lo.set u (⟨o.id,o.kind,o.up,o.b1,o.c1,o.data,d,o.own,o.b2,o.c2⟩:ObjV)).length=lo.length:=by simp
 rw[el]at k1;exact⟨k1,hcur,hg⟩
def useAt(X:ThrV)(lo:List ObjV)(x:Int)(k:Int):Option Nat:=match atL lo x with
 |none=>none
 |some u=>if (decide ((atOwnOb lo u).kind=k)&&seesB X (atOwnOb lo u).b1 (atOwnOb lo u).c1)=true then some u else none
theorem useAt_some{X:ThrV}{lo:List ObjV}{x k:Int}{u:Nat}(h:useAt X lo x k=some u):atL lo x=some u∧∃hu:u<lo.length,(lo[u]'hu).id=x∧(lo[u]'hu).kind=k∧seesB X (lo[u]'hu).b1 (lo[u]'hu).c1=true:=by
 unfold useAt at h;cases e:atL lo x with
 |none=>rw[e]at h;cases h
 |some v=>
  rw[e]at h;simp only at h;split at h
  ·rename_i hh;cases h;obtain⟨hu,e2⟩:=atL_some e;have eo:atOwnOb lo u=lo[u]:=(by simp[atOwnOb,hu]);rw[eo]at hh;simp only[Bool.and_eq_true,decide_eq_true_eq]at hh;exact⟨rfl,hu,e2,hh.1,hh.2⟩
  ·cases h
def strC(n:Nat)(f:Nat→ByteArray):List Value:=(List.range n).map (fun i=>Value.string (f i))
theorem strC_one{n:Nat}{f:Nat→ByteArray}:∀u∈strC n f,u.oneCell'=true:=fun u hu=>by obtain⟨y,_,rfl⟩:=List.mem_map.1 hu;rfl
def moreF(n:Nat)(f:Nat→ByteArray)(y:ByteArray)(i:Nat):ByteArray:=if i<n then f i else y
theorem strC_more(n:Nat)(f:Nat→ByteArray)(y:ByteArray):strC (n+1) (moreF n f y)=strC n f++[.string y]:=by
 unfold strC;rw[List.range_succ,List.map_append];congr 1
 ·refine List.map_congr_left fun i hi=>?_;have:i<n:=List.mem_range.1 hi;simp[moreF,this]
 ·simp[moreF]
abbrev OwnSt(w:World)(B:Nat)(v:Value)(n:Nat)(f:Nat→ByteArray):Prop:=w.ownsRow B 9 1 v n (strC n f)
theorem OwnSt.empty(w:World)(B:Nat)(hb:B≤w.heap.size)(f:Nat→ByteArray):OwnSt (w.alloc (.cells #[] 9)) B (.slice (some ⟨w.heap.size,0,none⟩) 0 0) 0 f:=World.ownsRow_made w #[] 0 hb (Nat.zero_le _) rfl
theorem OwnSt.newL{w:World}{B n c:Nat}{a:Option Addr}{f:Nat→ByteArray}(h:OwnSt w B (.slice a n c) n f)(hn:n≤1048576)(hz:∀i,i<n→(f i).size≤maxLen):StrL.new B w ⟨a,n,c,f⟩∧(n≤c∧c≤maxLen):=⟨ownS_newL h hn hz,own_cap h⟩
theorem lies_grown{w w':World}{row:Option Nat}{b off n:Nat}{cs:List Value}(h:LiesC w (some ⟨b,off,none⟩) n cs)(g:w.grownBy w' row)(hne:row≠some b):LiesC w' (some ⟨b,off,none⟩) n cs:=fun hn=>by
 obtain⟨b',off',e,hlt,hc⟩:=h hn;have e1:b=b':=by cases e;rfl
 have e2:off=off':=by cases e;rfl
 subst e1;subst e2;exact⟨b,off,rfl,Nat.lt_of_lt_of_le hlt g.size,fun j u hu=>by
  rw[World.cell?_of_block (a:=⟨b,off+j,none⟩) (g.block b hlt (fun e=>hne e.symm))];exact hc j u hu⟩
theorem one_lies(w:World)(x:ByteArray):LiesC (w.alloc (.cells #[.string x] 9)) (some ⟨w.heap.size,0,none⟩) 1 [.string x]:=fun _=>
 ⟨w.heap.size,0,rfl,by simp,fun j u hu=>by
   cases j with
   |zero=>simp at hu;subst hu;simp
   |succ j=>simp at hu⟩
theorem step_append_str0{ops:Array Oper}{o:Oper}{a:Act}{w:World}{K:Act→World→Prop}{Q:Exit→Act→World→Prop}{E:Prop}(hgd:o.guard=none)(s x:Operand)
 (ho:o.op= .call {callee:= .builtin .append,args:=#[s,x],argTypes:=#[40,40]})
 (B:Nat)(g:Nat)(f0:Nat→ByteArray)(hs:a.eval s= .slice (some ⟨g,0,none⟩) 0 0)(hown:OwnSt w B (.slice (some ⟨g,0,none⟩) 0 0) 0 f0)(ad:Option Addr)(m c:Nat)(f:Nat→ByteArray)(hx:a.eval x= .slice ad m c)(hc:StrAt w ad m f)
 (hm:m≤1048576)(hB:B≤w.heap.size)(d:Option Nat)(hd:o.dst=d)
 (h:∀a' c' w',OwnSt w' B (.slice a' m c') m f→w.grownBy w' (some g)→K (a.put d (.slice a' m c')) w'):
 if Region.wanted o (yielded ops a.tmps)=true then Oper.wp Tryz.prog o a w K Q else E:=by
 have hw:Region.wanted o (yielded ops a.tmps)=true:=by simp[Region.wanted,hgd]
 rw[if_pos hw];refine wp_append_gen Tryz.underlying40 Tryz.info9 rfl (by omega) w s x ho B _ 0 [] hs hown ad m c (strC m f) hx (by simp[strC]) (strs_lies hc) strC_one (by omega) (by omega) hB fun a' c' w' h2 h3 _=>?_;rw[Nat.zero_add,List.nil_append]at h2;rw[Nat.zero_add,hd];exact h a' c' w' h2 h3
theorem step_append_str1{ops:Array Oper}{o:Oper}{a:Act}{w:World}{K:Act→World→Prop}{Q:Exit→Act→World→Prop}{E:Prop}(hgd:o.guard=none)(s x:Operand)
 (ho:o.op= .call {callee:= .builtin .append,args:=#[s,x],argTypes:=#[40,40]})
 (B:Nat)(v:Value)(n:Nat)(f:Nat→ByteArray)(hs:a.eval s=v)(hown:OwnSt w B v n f)(ad:Option Addr)(c:Nat)(y:ByteArray)(hx:a.eval x= .slice ad 1 c)(hc:LiesC w ad 1 [.string y])
 (hm:n≤1048576)(hB:B≤w.heap.size)(d:Option Nat)(hd:o.dst=d)
 (h:∀a' c' w',OwnSt w' B (.slice a' (n+1) c') (n+1) (moreF n f y)→w.grownBy w' v.ownBlock→K (a.put d (.slice a' (n+1) c')) w'):
 if Region.wanted o (yielded ops a.tmps)=true then Oper.wp Tryz.prog o a w K Q else E:=by
 have hw:Region.wanted o (yielded ops a.tmps)=true:=by simp[Region.wanted,hgd]
 rw[if_pos hw];refine wp_append_gen Tryz.underlying40 Tryz.info9 rfl (by omega) w s x ho B v n (strC n f) hs hown ad 1 c [.string y] hx rfl hc (fun u hu=>by simp at hu;subst hu;rfl) (by omega) (by omega) hB fun a' c' w' h2 h3 _=>?_;rw[←strC_more]at h2;rw[hd];exact h a' c' w' h2 h3
end Go.Proofs.YtbacmamplkdgaaaGreatDoor
