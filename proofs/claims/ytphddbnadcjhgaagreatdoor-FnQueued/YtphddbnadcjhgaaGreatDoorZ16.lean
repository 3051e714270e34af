import Derived.Test.YtphddbnadcjhgaaGreatDoorZ12
namespace Go.Proofs.YtphddbnadcjhgaaGreatDoor
open Go Go.RowKit Go.Deep Go.Maps Go.BigFrame Go.Shelf Go.Proofs.Tryz
theorem az(W:World):Calls prog 93 #[.int .i64 6] W fun e w'=>∃x,e= .returned x/\(x= .int .i64 1/\Below W W w'):=by
 go_enter func93,ntmps93
 go_wp2;go_ret;exact⟨_,rfl,rfl,Below.refl _ _⟩
theorem ZX(W:World):Calls prog 93 #[.int .i64 7] W fun e w'=>∃x,e= .returned x/\(x= .int .i64 1/\Below W W w'):=by
 go_enter func93,ntmps93
 go_wp2;go_ret;exact⟨_,rfl,rfl,Below.refl _ _⟩
theorem ZW(W:World):Calls prog 93 #[.int .i64 8] W fun e w'=>∃x,e= .returned x/\(x= .int .i64 1/\Below W W w'):=by
 go_enter func93,ntmps93
 go_wp2;go_ret;exact⟨_,rfl,rfl,Below.refl _ _⟩
theorem am(W:World):Calls prog 93 #[.int .i64 9] W fun e w'=>∃x,e= .returned x/\(x= .int .i64 2/\Below W W w'):=by
 go_enter func93,ntmps93
 go_wp2;go_ret;exact⟨_,rfl,rfl,Below.refl _ _⟩
theorem Zj(W:World):Calls prog 93 #[.int .i64 10] W fun e w'=>∃x,e= .returned x/\(x= .int .i64 2/\Below W W w'):=by
 go_enter func93,ntmps93
 go_wp2;go_ret;exact⟨_,rfl,rfl,Below.refl _ _⟩
theorem Zw(W:World):Calls prog 93 #[.int .i64 13] W fun e w'=>∃x,e= .returned x/\(x= .int .i64 4/\Below W W w'):=by
 go_enter func93,ntmps93
 go_wp2;go_ret;exact⟨_,rfl,rfl,Below.refl _ _⟩
theorem ZH(W:World):Calls prog 93 #[.int .i64 15] W fun e w'=>∃x,e= .returned x/\(x= .int .i64 3/\Below W W w'):=by
 go_enter func93,ntmps93
 go_wp2;go_ret;exact⟨_,rfl,rfl,Below.refl _ _⟩
theorem Bz.setData{w:World}{B g co:Nat}{vt:Value}{lt:List Ac}{lo:List Ab}(h:Bz w B vt (.slice (some ⟨g,0,none⟩) lo.length co) lt lo){u:Nat}{d:ByteArray}(hu:u<lo.length){o:Ab}(ho:o=lo[u]):
 Bz (w.setCell ⟨g,u*10+5,none⟩ (.string d)) B vt (.slice (some ⟨g,0,none⟩) lo.length co) lt (lo.set u ⟨o.id,o.kind,o.up,o.b1,o.c1,d,o.items,o.own,o.b2,o.c2⟩)/\(∃cur,Ah w g (.cells cur 40))/\B<=g:=by
 have hn:=h.on _ (List.getElem_mem hu);have hc:=h.oc _ (List.getElem_mem hu);rw[<-ho]at hn hc;obtain⟨k1,hcur,hg⟩:=h.setO (x:=⟨o.id,o.kind,o.up,o.b1,o.c1,d,o.items,o.own,o.b2,o.c2⟩) (u:= .string d) hu (i:=5) (by omega) (by rw[<-ho];rfl) hn hc;have el:(lo.set u (⟨o.id,o.kind,o.up,o.b1,o.c1,d,o.items,o.own,o.b2,o.c2⟩:Ab)).length=lo.length:=by simp
 rw[el]at k1;exact⟨k1,hcur,hg⟩
theorem Bz.setItems{w:World}{B g co:Nat}{vt:Value}{lt:List Ac}{lo:List Ab}(h:Bz w B vt (.slice (some ⟨g,0,none⟩) lo.length co) lt lo){u:Nat}{d:As}(hu:u<lo.length){o:Ab}(ho:o=lo[u])(hd:d.new B w)(hdc:d.n<=d.k/\d.k<=maxLen):
 Bz (w.setCell ⟨g,u*10+6,none⟩ (.slice d.a d.n d.k)) B vt (.slice (some ⟨g,0,none⟩) lo.length co) lt (lo.set u ⟨o.id,o.kind,o.up,o.b1,o.c1,o.data,d,o.own,o.b2,o.c2⟩)/\(∃cur,Ah w g (.cells cur 40))/\B<=g:=by
 have hn:=h.on _ (List.getElem_mem hu);have hc:=h.oc _ (List.getElem_mem hu);rw[<-ho]at hn hc;obtain⟨k1,hcur,hg⟩:=h.setO (x:=⟨o.id,o.kind,o.up,o.b1,o.c1,o.data,d,o.own,o.b2,o.c2⟩) (u:= .slice d.a d.n d.k) hu (i:=6) (by omega) (by rw[<-ho];rfl) ⟨hn.1,hd,hn.2.2.1,hn.2.2.2⟩ hdc;have el:(lo.set u (⟨o.id,o.kind,o.up,o.b1,o.c1,o.data,d,o.own,o.b2,o.c2⟩:Ab)).length=lo.length:=by simp
 rw[el]at k1;exact⟨k1,hcur,hg⟩
def Bf(X:Ac)(lo:List Ab)(x:Int)(k:Int):Option Nat:=match Gx lo x with
 |none=>none
 |some u=>if (decide ((Aa lo u).kind=k)&&Gl X (Aa lo u).b1 (Aa lo u).c1)=true then some u else none
theorem Df{X:Ac}{lo:List Ab}{x k:Int}{u:Nat}(h:Bf X lo x k=some u):Gx lo x=some u/\∃hu:u<lo.length,(lo[u]'hu).id=x/\(lo[u]'hu).kind=k/\Gl X (lo[u]'hu).b1 (lo[u]'hu).c1=true:=by
 unfold Bf at h;cases e:Gx lo x with
 |none=>rw[e]at h;cases h
 |some v=>
  rw[e]at h;simp only at h;split at h
  ·rename_i hh;cases h;obtain⟨hu,e2⟩:=Gs e;have eo:Aa lo u=lo[u]:=(by simp[Aa,hu]);rw[eo]at hh;simp only[Bool.and_eq_true,decide_eq_true_eq]at hh;exact⟨rfl,hu,e2,hh.1,hh.2⟩
  ·cases h
def If(n:Nat)(f:Nat->ByteArray):List Value:=(List.range n).map (fun i=>Value.string (f i))
theorem Xf{n:Nat}{f:Nat->ByteArray}:∀u∈If n f,u.oneCell'=true:=fun u hu=>by obtain⟨y,_,rfl⟩:=List.mem_map.1 hu;rfl
def Cv(n:Nat)(f:Nat->ByteArray)(y:ByteArray)(i:Nat):ByteArray:=if i<n then f i else y
theorem OH(n:Nat)(f:Nat->ByteArray)(y:ByteArray):If (n+1) (Cv n f y)=If n f++[.string y]:=by
 unfold If;rw[List.range_succ,List.map_append];congr 1
 ·refine List.map_congr_left fun i hi=>?_;have:i<n:=List.mem_range.1 hi;simp[Cv,this]
 ·simp[Cv]
abbrev Ew(w:World)(B:Nat)(v:Value)(n:Nat)(f:Nat->ByteArray):Prop:=w.ownsRow B 9 1 v n (If n f)
theorem Ew.empty(w:World)(B:Nat)(hb:B<=w.heap.size)(f:Nat->ByteArray):Ew (w.alloc (.cells #[] 9)) B (.slice (some ⟨w,0,none⟩) 0 0) 0 f:=World.ownsRow_made w #[] 0 hb (Nat.zero_le _) rfl
theorem Ew.newL{w:World}{B n c:Nat}{a:Option Addr}{f:Nat->ByteArray}(h:Ew w B (.slice a n c) n f)(hn:n<=1048576)(hz:∀i,i<n->(f i).size<=maxLen):As.new B w ⟨a,n,c,f⟩/\(n<=c/\c<=maxLen):=⟨OT h hn hz,Ep h⟩
theorem Ns{w w':World}{row:Option Nat}{b off n:Nat}{cs:List Value}(h:Bn w (some ⟨b,off,none⟩) n cs)(g:w.grownBy w' row)(hne:row≠some b):Bn w' (some ⟨b,off,none⟩) n cs:=fun hn=>by
 obtain⟨b',off',e,hlt,hc⟩:=h hn;have e1:b=b':=by cases e;rfl
 have e2:off=off':=by cases e;rfl
 subst e1;subst e2;exact⟨b,off,rfl,Nat.lt_of_lt_of_le hlt g.size,fun j u hu=>by
  rw[World.cell?_of_block (a:=⟨b,off+j,none⟩) (g.block b hlt (fun e=>hne e.symm))];exact hc j u hu⟩
theorem Ih(w:World)(x:ByteArray):Bn (w.alloc (.cells #[.string x] 9)) (some ⟨w,0,none⟩) 1 [.string x]:=fun _=>
 ⟨w,0,rfl,by simp,fun j u hu=>by
   cases j with
   |zero=>simp at hu;subst hu;simp
   |succ j=>simp at hu⟩
theorem Ee{ops:Array Oper}{o:Oper}{a:Act}{w:World}{K:Act->World->Prop}{Q:Exit->Act->World->Prop}{E:Prop}(hgd:o.guard=none)(s x:Operand)
 (ho:o.op= .call {callee:= .builtin .append,args:=#[s,x],argTypes:=#[37,37]})
 (B:Nat)(g:Nat)(f0:Nat->ByteArray)(hs:a.eval s= .slice (some ⟨g,0,none⟩) 0 0)(hown:Ew w B (.slice (some ⟨g,0,none⟩) 0 0) 0 f0)(ad:Option Addr)(m c:Nat)(f:Nat->ByteArray)(hx:a.eval x= .slice ad m c)(hc:HI w ad m f)
 (hm:m<=1048576)(hB:B<=w.heap.size)(d:Option Nat)(hd:o.dst=d)
 (h:∀a' c' w',Ew w' B (.slice a' m c') m f->w.grownBy w' (some g)->K (a.put d (.slice a' m c')) w'):
 if Region.wanted o (yielded ops a.tmps)=true then Oper.wp prog o a w K Q else E:=by
 have hw:Region.wanted o (yielded ops a.tmps)=true:=by simp[Region.wanted,hgd]
 rw[if_pos hw];refine Dg underlying37 Tryz.info9 rfl (by omega) w s x ho B _ 0 [] hs hown ad m c (If m f) hx (by simp[If]) (IY hc) Xf (by omega) (by omega) hB fun a' c' w' h2 h3 _=>?_;rw[Nat.zero_add,List.nil_append]at h2;rw[Nat.zero_add,hd];exact h a' c' w' h2 h3
theorem Fz{ops:Array Oper}{o:Oper}{a:Act}{w:World}{K:Act->World->Prop}{Q:Exit->Act->World->Prop}{E:Prop}(hgd:o.guard=none)(s x:Operand)
 (ho:o.op= .call {callee:= .builtin .append,args:=#[s,x],argTypes:=#[37,37]})
 (B:Nat)(v:Value)(n:Nat)(f:Nat->ByteArray)(hs:a.eval s=v)(hown:Ew w B v n f)(ad:Option Addr)(c:Nat)(y:ByteArray)(hx:a.eval x= .slice ad 1 c)(hc:Bn w ad 1 [.string y])
 (hm:n<=1048576)(hB:B<=w.heap.size)(d:Option Nat)(hd:o.dst=d)
 (h:∀a' c' w',Ew w' B (.slice a' (n+1) c') (n+1) (Cv n f y)->w.grownBy w' v.ownBlock->K (a.put d (.slice a' (n+1) c')) w'):
 if Region.wanted o (yielded ops a.tmps)=true then Oper.wp prog o a w K Q else E:=by
 have hw:Region.wanted o (yielded ops a.tmps)=true:=by simp[Region.wanted,hgd]
 rw[if_pos hw];refine Dg underlying37 Tryz.info9 rfl (by omega) w s x ho B v n (If n f) hs hown ad 1 c [.string y] hx rfl hc (fun u hu=>by simp at hu;subst hu;rfl) (by omega) (by omega) hB fun a' c' w' h2 h3 _=>?_;rw[<-OH]at h2;rw[hd];exact h a' c' w' h2 h3
end Go.Proofs.YtphddbnadcjhgaaGreatDoor
