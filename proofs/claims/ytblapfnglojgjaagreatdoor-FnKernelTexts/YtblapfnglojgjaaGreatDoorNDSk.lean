import Derived.Test.YtblapfnglojgjaaGreatDoorZ14k
namespace Go.Proofs.YtblapfnglojgjaaGreatDoor
open Go Go.RowKit Go.Deep Go.Maps Go.BigFrame Go.Shelf Go.Proofs.Tryz
def Ty(n:Nat)(f:Nat->ByteArray):List Value:=(List.range n).map (fun i=>Value.string (f i))
theorem ZQ{n:Nat}{f:Nat->ByteArray}:∀u∈Ty n f,u.oneCell'=true:=fun u hu=>by obtain⟨y,_,rfl⟩:=List.mem_map.1 hu;rfl
def DF(n:Nat)(f:Nat->ByteArray)(y:ByteArray)(i:Nat):ByteArray:=if i<n then f i else y
theorem XE(n:Nat)(f:Nat->ByteArray)(y:ByteArray):Ty (n+1) (DF n f y)=Ty n f++[.string y]:=by
 unfold Ty;rw[List.range_succ,List.map_append];congr 1
 ·refine List.map_congr_left fun i hi=>?_;have:i<n:=List.mem_range.1 hi;simp[DF,this]
 ·simp[DF]
abbrev Il(w:World)(B:Nat)(v:Value)(n:Nat)(f:Nat->ByteArray):Prop:=w.ownsRow B 9 1 v n (Ty n f)
theorem Il.empty(w:World)(B:Nat)(hb:B<=w.heap.size)(f:Nat->ByteArray):Il (w.alloc (.cells #[] 9)) B (.slice (w) 0 0) 0 f:=World.ownsRow_made w #[] 0 hb (Nat.zero_le _) rfl
theorem Il.newL{w:World}{B n c:Nat}{a:Option Addr}{f:Nat->ByteArray}(h:Il w B (.slice a n c) n f)(hn:n<=1048576)(hz:∀i,i<n->(f i).size<=maxLen):AX.new B w ⟨a,n,c,f⟩/\(n<=c/\c<=maxLen):=⟨QC h hn hz,GH h⟩
theorem PV{w w':World}{row:Option Nat}{b off n:Nat}{cs:List Value}(h:Bh w (some ⟨b,off,none⟩) n cs)(g:w.grownBy w' row)(hne:row≠some b):Bh w' (some ⟨b,off,none⟩) n cs:=fun hn=>by
 obtain⟨b',off',e,hlt,hc⟩:=h hn;have e1:b=b':=by cases e;rfl
 have e2:off=off':=by cases e;rfl
 subst e1;subst e2;exact⟨b,off,rfl,Nat.lt_of_lt_of_le hlt g.size,fun j u hu=>by
  rw[World.cell?_of_block (a:=⟨b,off+j,none⟩) (g.block b hlt (fun e=>hne e.symm))];exact hc j u hu⟩
theorem OT(w:World)(x:ByteArray):Bh (w.alloc (.cells #[.string x] 9)) (some ⟨w,0,none⟩) 1 [.string x]:=fun _=>
 ⟨w,0,rfl,by simp,fun j u hu=>by
   cases j with
   |zero=>simp at hu;subst hu;simp
   |succ j=>simp at hu⟩
theorem EC{ops:Array Oper}{o:Oper}{a:Act}{w:World}{K:Act->World->Prop}{Q:Exit->Act->World->Prop}{E:Prop}(hgd:o.guard=none)(s x:Operand)
 (ho:o.op= .call {callee:= .builtin .append,args:=#[s,x],argTypes:=#[49,49]})
 (B:Nat)(g:Nat)(f0:Nat->ByteArray)(hs:a.eval s= .slice g 0 0)(hown:Il w B (.slice g 0 0) 0 f0)(ad:Option Addr)(m c:Nat)(f:Nat->ByteArray)(hx:a.eval x= .slice ad m c)(hc:JF w ad m f)
 (hm:m<=1048576)(hB:B<=w.heap.size)(d:Option Nat)(hd:o.dst=d)
 (h:∀a' c' w',Il w' B (.slice a' m c') m f->w.grownBy w' (some g)->K (a.put d (.slice a' m c')) w'):
 if Region.wanted o (yielded ops a.tmps)=true then Oper.wp prog o a w K Q else E:=by
 have hw:Region.wanted o (yielded ops a.tmps)=true:=by simp[Region.wanted,hgd]
 rw[if_pos hw];refine BR underlying49 Tryz.info9 rfl (by omega) w s x ho B _ 0 [] hs hown ad m c (Ty m f) hx (by simp[Ty]) (QJ hc) ZQ (by omega) (by omega) hB fun a' c' w' h2 h3 _=>?_;rw[Nat.zero_add,List.nil_append]at h2;rw[Nat.zero_add,hd];exact h a' c' w' h2 h3
theorem GB{ops:Array Oper}{o:Oper}{a:Act}{w:World}{K:Act->World->Prop}{Q:Exit->Act->World->Prop}{E:Prop}(hgd:o.guard=none)(s x:Operand)
 (ho:o.op= .call {callee:= .builtin .append,args:=#[s,x],argTypes:=#[49,49]})
 (B:Nat)(v:Value)(n:Nat)(f:Nat->ByteArray)(hs:a.eval s=v)(hown:Il w B v n f)(ad:Option Addr)(c:Nat)(y:ByteArray)(hx:a.eval x= .slice ad 1 c)(hc:Bh w ad 1 [.string y])
 (hm:n<=1048576)(hB:B<=w.heap.size)(d:Option Nat)(hd:o.dst=d)
 (h:∀a' c' w',Il w' B (.slice a' (n+1) c') (n+1) (DF n f y)->w.grownBy w' v.ownBlock->K (a.put d (.slice a' (n+1) c')) w'):
 if Region.wanted o (yielded ops a.tmps)=true then Oper.wp prog o a w K Q else E:=by
 have hw:Region.wanted o (yielded ops a.tmps)=true:=by simp[Region.wanted,hgd]
 rw[if_pos hw];refine BR underlying49 Tryz.info9 rfl (by omega) w s x ho B v n (Ty n f) hs hown ad 1 c [.string y] hx rfl hc (fun u hu=>by simp at hu;subst hu;rfl) (by omega) (by omega) hB fun a' c' w' h2 h3 _=>?_;rw[<-XE]at h2;rw[hd];exact h a' c' w' h2 h3
end Go.Proofs.YtblapfnglojgjaaGreatDoor
