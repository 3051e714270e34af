import Derived.Test.YtbdagpckhfcneaaGreatDoorZ37r
set_option maxRecDepth 100000
set_option maxHeartbeats 4000000
namespace Go.Proofs.YtbdagpckhfcneaaGreatDoor
open Go Go.RowKit Go.Deep Go.Maps Go.BigFrame Go.Shelf Go.Proofs.Tryz
variable {o:Ab}{lo l':List Ab}{lt:List Ae}
theorem RJ{o2:Ab}(h:o.same o2):∀lo,Is (Bj o lo) (Bj o2 lo)
 |[]=>⟨rfl,fun j hj=>by
  have e:j=0:=by simp[Bj]at hj;omega
  subst e;exact h⟩
 |x::r=>by
  have ih:=RJ h r;have e:o2.id=o.id:=h.1;by_cases hx:o.id<x.id
  ·have a:Bj o (x::r)=o::x::r:=(by simp[Bj,hx]);have b:Bj o2 (x::r)=o2::x::r:=(by simp[Bj,e,hx]);rw[a,b];refine⟨rfl,fun j hj=>?_⟩;cases j with
   |zero=>exact h
   |succ j=>exact Ab.same.refl _
  ·have a:Bj o (x::r)=x::Bj o r:=(by simp[Bj,hx]);have b:Bj o2 (x::r)=x::Bj o2 r:=(by simp[Bj,e,hx]);rw[a,b];refine⟨by simp[ih.1],fun j hj=>?_⟩;cases j with
   |zero=>exact Ab.same.refl _
   |succ j=>exact ih.2 j (by simpa using hj)
theorem Pp:∀{l m:List Ab},l.Pairwise (fun a b=>a.id<b.id)->m.Pairwise (fun a b=>a.id<b.id)->(∀x,x∈l↔x∈m)->l=m
 |[],[],_,_,_=>rfl
 |[],b::m,_,_,h=>by have:=(h b).2 List.mem_cons_self;cases this
 |a::l,[],_,_,h=>by have:=(h a).1 List.mem_cons_self;cases this
 |a::l,b::m,h1,h2,h=>by
  obtain⟨a1,a2⟩:=List.pairwise_cons.1 h1;obtain⟨b1,b2⟩:=List.pairwise_cons.1 h2;have e:a=b:=by
   rcases List.mem_cons.1 ((h a).1 List.mem_cons_self)with e|e
   ·exact e
   ·rcases List.mem_cons.1 ((h b).2 List.mem_cons_self)with e'|e'
    ·exact e'.symm
    ·have:=a1 b e';have:=b1 a e;omega
  subst e;congr 1;refine Pp a2 b2 (fun x=>?_);constructor
  ·intro hx;rcases List.mem_cons.1 ((h x).1 (List.mem_cons_of_mem _ hx))with e|e
   ·subst e;have:=a1 x hx;omega
   ·exact e
  ·intro hx;rcases List.mem_cons.1 ((h x).2 (List.mem_cons_of_mem _ hx))with e|e
   ·subst e;have:=b1 x hx;omega
   ·exact e
theorem Sx(o:Ab)(lo:List Ab):(Bj o lo).Perm (lo++[o]):=by
 obtain⟨p,_,e,_⟩:=JO o lo;rw[e];refine List.perm_middle.trans ?_;rw[List.take_append_drop];exact(List.perm_append_singleton o lo).symm
theorem Xf(hr:lo.Pairwise (fun a b=>a.id<b.id))(hn:∀x∈lo,x.id≠o.id):(Bj o lo).Pairwise (fun a b=>a.id<b.id):=by
 induction lo with
 |nil=>simp[Bj]
 |cons x r ih=>
  obtain⟨h1,h2⟩:=List.pairwise_cons.1 hr;have ne:=hn x List.mem_cons_self;by_cases hx:o.id<x.id
  ·have a:Bj o (x::r)=o::x::r:=(by simp[Bj,hx]);rw[a,List.pairwise_cons];refine⟨fun y hy=>?_,hr⟩;rcases List.mem_cons.1 hy with rfl|hy
   ·exact hx
   ·have:=h1 y hy;omega
  ·have a:Bj o (x::r)=x::Bj o r:=(by simp[Bj,hx]);rw[a,List.pairwise_cons];refine⟨fun y hy=>?_,ih h2 (fun y hy=>hn y (List.mem_cons_of_mem _ hy))⟩;rcases Kk hy with rfl|hy
   ·omega
   ·exact h1 y hy
theorem TY(hr:lo.Pairwise (fun a b=>a.id<b.id))(hn:∀x∈lo,x.id≠o.id)(hp:l'.Perm (lo++[o]))(hs:l'.Pairwise (fun a b=>¬b.id<a.id)):l'=Bj o lo:=by
 have ri:=Xf hr hn;have nd:l'.Pairwise (fun a b=>a.id≠b.id):=((hp.trans (Sx o lo).symm).pairwise_iff (fun h e=>h e.symm)).2 (ri.imp (fun h=>by omega));refine Pp ((hs.and nd).imp (fun⟨h1,h2⟩=>by omega)) ri (fun x=>?_);exact(hp.trans (Sx o lo).symm).mem_iff
theorem Apart.permO{l:List Ab}(h:Apart lt l)(hp:l'.Perm l):Apart lt l':=
 ⟨((hp.map _).flatten.append_left _).nodup_iff.2 h.c,((hp.map _).flatten.append_left _).nodup_iff.2 h.i,(hp.map _).flatten.nodup_iff.2 h.s⟩
theorem Xu(ok:okL lt lo=true):lo.Pairwise (fun a b=>a.id<b.id):=by
 rw[List.pairwise_iff_getElem];intro i j hi hj hij;have h:(Aa lo i).id<(Aa lo j).id:=(Bs.1 ok).rise i j hij hj;rw[Ap hi,Ap hj]at h;exact h
theorem new_ne(ok:okL lt lo=true){t:Nat}(ht:t<lt.length):∀x∈lo,x.id≠Au lt[t]:=fun x hx e=>by
 obtain⟨j,hj,rfl⟩:=List.getElem_of_mem hx;have kk:=Bs.1 ok;have X:=Ez ok _ (List.getElem_mem ht);have i:=X.id;have m:=X.made;have nc:Au lt[t]=1000*lt[t].id+lt[t].made+1:=rfl;have e':(Aa lo j).id=Au lt[t]:=by rw[Ap hj];exact e
 by_cases h0:j=0
 ·subst h0;have:=(Gj ok).2.1;omega
 ·obtain⟨t',h1,h2,h3,h4⟩:=Fj kk.thr (kk.num j (by omega) hj);have g1:(AY lt t').id=(Aa lo j).id/1000:=h2;have g2:(Aa lo j).id%1000<=(AY lt t').made:=h4;have g3:(AY lt t).id=lt[t].id:=by rw[Df ht]
  have e3:t'=t:=(Ry kk.thr).inj h1 ht (by show(AY lt t').id=(AY lt t).id;rw[g1,g3,e'];omega);subst e3;rw[Df ht,e']at g2;omega
theorem QU.lowB{B:Nat}{w w':World}(h:QU w)(hb:Below B w w')(hB:18<=B):QU w':=by
 obtain⟨g,hg⟩:=Tryz.tabNamed;have hl:g<18:=by
  have:(prog.globalNamed "internal/strconv.uint64pow10").all (fun g=>decide (g<18))=true:=by kernel_rfl
  rw[hg]at this;simpa using this
 unfold QU Lib.TabIs at *;exact var?_below (hb.mono (show g+1<=B by omega)) hg (Nat.lt_succ_self g) h
theorem Sk(w:World)(B P:Nat)(s:Al)(g ca q co:Nat)(lt:List Ae)(lo:List Ab)(t:Nat)(m:Value)(h:El w B P s g ca q co lt lo t m)(ht:t<lt.length)(X:Ae)(hX:X=lt[t])(hi:1<=X.id/\X.id<=1000000)(hm:0<=X.made/\X.made<=1000000):
 Calls prog 131 #[.pointer P] w fun e w'=>∃v,e= .returned v/\(v= .int .i64 (Au X)/\El w' B P s g ca q co (lt.set t ⟨X.id,X.b1,X.c1,X.b2,X.c2,X.own,X.made+1⟩) lo t m/\Below B w w'/\w.grownBy w' (some g)):=by
 obtain⟨CW,gl⟩:=h.st.jJ ht;rw[<-hX]at CW;have q0:w.cell? ⟨g,t*7,none⟩=some (.int .i64 X.id):=CW.c0;have q6:w.cell? ⟨g,t*7+6,none⟩=some (.int .i64 X.made):=CW.c6;obtain⟨_,_,_,c12,_⟩:=h.wk.jZ;obtain⟨S1,hg,cur,hcu⟩:=h.setMade (n:=X.made+1) ht hX;have ne:=h.setP;have gf:=hcu.jC;obtain⟨_,_,_,d12,_⟩:=S1.wk.jZ;have el:(lt.set t (⟨X.id,X.b1,X.c1,X.b2,X.c2,X.own,X.made+1⟩:Ae)).length=lt.length:=by simp
 obtain⟨CV,_⟩:=S1.st.jJ (t:=t) (by rw[el];exact ht);have eg:(lt.set t (⟨X.id,X.b1,X.c1,X.b2,X.c2,X.own,X.made+1⟩:Ae))[t]'(by rw[el];exact ht)=⟨X.id,X.b1,X.c1,X.b2,X.c2,X.own,X.made+1⟩:=by simp
 rw[eg]at CV;have r0:(w.setCell ⟨g,t*7+6,none⟩ (.int .i64 (X.made+1))).cell? ⟨g,t*7,none⟩=some (.int .i64 X.id):=CV.c0;have r6:(w.setCell ⟨g,t*7+6,none⟩ (.int .i64 (X.made+1))).cell? ⟨g,t*7+6,none⟩=some (.int .i64 (X.made+1)):=CV.c6;have w1_:IntKind.i64.wrap (1000*X.id)=1000*X.id:=by rw[IntKind.wrap_i64];omega
 have w3_:IntKind.i64.wrap (1000*X.id+(X.made+1))=1000*X.id+(X.made+1):=by rw[IntKind.wrap_i64];omega
 have w4_:IntKind.i64.wrap (X.made+1)=X.made+1:=by rw[IntKind.wrap_i64];omega
 have NC:Hid (Value.int .i64 (1000*X.id+(X.made+1))= .int .i64 (Au X)):=hid (congrArg _ (by unfold Au;omega));have S:=hid S1;have BL:=hid (show Below B w (w.setCell ⟨g,t*7+6,none⟩ (.int .i64 (X.made+1))) from(Below.refl B w).setCell hg _);have GR:=hid (Ar (w:=w) (w1:=w) (q:=g) ⟨rfl,rfl,rfl,Nat.le_refl _,fun _ _ _=>rfl⟩ (t*7+6) (.int .i64 (X.made+1)));have n1:¬P=g:=ne.1;have n2:¬g=P:=Ne.symm ne.1;clear h CW CV S1 el eg hX ne;go_enter func131,ntmps131
 go_wp2_with fail
 have e0:(w.setCell ⟨g,t*7+6,none⟩ (.int .i64 (X.made+1))).drew.cell? ⟨g,t*7,none⟩=some (.int .i64 X.id):=r0;have e6:(w.setCell ⟨g,t*7+6,none⟩ (.int .i64 (X.made+1))).drew.cell? ⟨g,t*7+6,none⟩=some (.int .i64 (X.made+1)):=r6;have e12:(w.setCell ⟨g,t*7+6,none⟩ (.int .i64 (X.made+1))).drew.cell? ⟨P,12,none⟩=some (.pointer (some ⟨g,t*7,none⟩)):=d12;clear r0 r6 d12;have SD:=hid (S.out.below (Below.refl _ _).drew);have BD:=hid (show Below B w (w.setCell ⟨g,t*7+6,none⟩ (.int .i64 (X.made+1))).drew from BL.out.drew);have GD:=hid (Fh GR (Below.refl _ _).drew);go_region_law fail
 all_goals(
  go_wp2;go_ret;exact⟨_,rfl,NC,SD,BD,GD⟩)
end Go.Proofs.YtbdagpckhfcneaaGreatDoor
