import Derived.Test.YtblapfnglojgjaaGreatDoorZ33k
import Derived.Test.YtblapfnglojgjaaGreatDoorRS2k
set_option maxRecDepth 100000
set_option maxHeartbeats 16000000
namespace Go.Proofs.YtblapfnglojgjaaGreatDoor
open Go Go.RowKit Go.Deep Go.Maps Go.Proofs.Tryz
variable {B P:Nat}{w w':World}{v:Value}
def AH.bs(c:AH):List Nat:=if 0<c.n then(match c.a with|some p=>[p.block]|none=>[])else[]
def AU.bs(c:AU):List Nat:=if 0<c.n then(match c.a with|some p=>[p.block]|none=>[])else[]
def AX.bs(c:AX):List Nat:=if 0<c.n then(match c.a with|some p=>[p.block]|none=>[])else[]
theorem AH.new.bs{c:AH}(h:c.new B w):c.bs.Nodup/\∀b∈c.bs,B<=b/\b<w.heap.size:=by
 unfold AH.bs;split
 ·rename_i h0;obtain⟨b,m,F,e,h1,_,h3⟩:=h.2 h0;rw[e];exact⟨by simp,fun x hx=>by rw[List.mem_singleton.1 hx];exact⟨h1,h3.lt⟩⟩
 ·exact⟨by simp,fun x hx=>by cases hx⟩
theorem AU.new.bs{c:AU}(h:c.new B w):c.bs.Nodup/\∀b∈c.bs,B<=b/\b<w.heap.size:=by
 unfold AU.bs;split
 ·rename_i h0;obtain⟨b,m,F,e,h1,_,h3⟩:=h.2 h0;rw[e];exact⟨by simp,fun x hx=>by rw[List.mem_singleton.1 hx];exact⟨h1,h3.lt⟩⟩
 ·exact⟨by simp,fun x hx=>by cases hx⟩
theorem AX.new.bs{c:AX}(h:c.new B w):c.bs.Nodup/\∀b∈c.bs,B<=b/\b<w.heap.size:=by
 unfold AX.bs;split
 ·rename_i h0;obtain⟨b,m,F,e,h1,_,h3⟩:=h.2 h0;rw[e];exact⟨by simp,fun x hx=>by rw[List.mem_singleton.1 hx];exact⟨h1,h3.lt⟩⟩
 ·exact⟨by simp,fun x hx=>by cases hx⟩
theorem Gp{l1 l2:List Nat}{M:Nat}(h1:l1.Nodup)(h2:l2.Nodup)(a:∀x∈l1,x<M)(b:∀x∈l2,M<=x):(l1++l2).Nodup:=by
 rw[List.nodup_append];exact⟨h1,h2,fun x hx y hy e=>by have:=a x hx;have:=b y hy;omega⟩
theorem An.sets{l:List (Int×Int)}(hP:P<B):∀(cs:List (Nat×Value)) (w:World),An w B v l->An (KQ w P cs) B v l
 |[],_,h=>h
 |(_,x)::cs,_,h=>An.sets hP cs _ (An.set h hP _ x)
theorem Lb{a:World}{row:Option Nat}(hP:a.heap.size<=P):∀(cs:List (Nat×Value)) (b:World),a.grownBy b row->a.grownBy (KQ b P cs) row
 |[],_,h=>h
 |(_,x)::cs,_,h=>Lb hP cs _ (Ey h hP _ x)
def Af.cb(t:Af):List Nat:=t.c1.bs++t.c2.bs
def Ae.cb(t:Ae):List Nat:=t.c1.bs++t.c2.bs
theorem An.past{l:List (Int×Int)}(h:An w B v l)(hg:w.grownBy w' (some P))(hP:P<B):An w' B v l:=by
 refine⟨h.1,?_⟩;rcases h.2 with hn|⟨g,cap,cur,hv,hbg,hgg,rest⟩
 ·exact .inl hn
 ·exact .inr ⟨g,cap,cur,hv,hbg,(hg.block g (Array.getElem?_eq_some_iff.1 hgg).1 (fun e=>by have:=Option.some.inj e;omega)).trans hgg,rest⟩
theorem Bo.past{l:List Int}(h:Bo w B v l)(hg:w.grownBy w' (some P))(hP:P<B):Bo w' B v l:=by
 refine⟨h.1,?_⟩;rcases h.2 with hn|⟨g,cap,cur,hv,hbg,hgg,rest⟩
 ·exact .inl hn
 ·exact .inr ⟨g,cap,cur,hv,hbg,(hg.block g (Array.getElem?_eq_some_iff.1 hgg).1 (fun e=>by have:=Option.some.inj e;omega)).trans hgg,rest⟩
def dI(u:TypeId)(pv:Value)(rb:Nat)(W:World)(ws:List (List UInt8))(e:Ending)(W':World):Prop:=(∃x r,ws=x::r/\okD x=true/\e= .returned (.int .i64 (Bb x))/\Iy W' rb (jn r)/\W.grownBy W' (some rb))∨((∀x r,ws=x::r->okD x=false)/\e=Be u pv/\W.grownBy W' (some rb))
def dq(u:TypeId)(pv:Value)(rb:Nat)(W:World)(ws:List (List UInt8))(e:Ending)(W':World):Prop:=(∃x r a kk,ws=x::r/\(Al x).2.2=true/\e= .returned (.agg #[.int .i64 (Al x).1,.slice a (Al x).2.1.length kk])/\An W' W (.slice a (Al x).2.1.length kk) (Al x).2.1/\Iy W' rb (jn r)/\W.grownBy W' (some rb))∨((∀x r,ws=x::r->(Al x).2.2=false)/\e=Be u pv/\W.grownBy W' (some rb))
theorem Zl(u:TypeId)(pv:Value)(rb:Nat)(ws:List (List UInt8))(W:World)(hL:(jn ws).length<=1048576)(hn:∀w∈ws,no 32 w)(hR:Iy W rb (jn ws))(hE:MR u pv W)(h0:rb≠0):
 Calls prog 73 #[.pointer rb] W fun e W'=>dI u pv rb W ws e W':=by
 refine(Oj u pv rb (jn ws) W hL hR hE h0).mono ?_;intro e W' h;cases ws with
 |nil=>
  rw[Zd]at h;rcases h with⟨h,_⟩|⟨_,h2,h3⟩
  ·cases h
  ·exact Or.inr ⟨(fun x r e=>nomatch e),h2,h3⟩
 |cons x r=>
  rw[VV (hn x (List.mem_cons_self ..))]at h;rcases h with⟨_,h1,h2,h3,h4⟩|⟨h1,h2,h3⟩
  ·exact Or.inl ⟨x,r,rfl,h1,by rw[h2];unfold Bb;rw[if_pos h1],h3,h4⟩
  ·exact Or.inr ⟨fun y s e=>by cases e;simpa using h1,h2,h3⟩
theorem ag(u:TypeId)(pv:Value)(rb:Nat)(ws:List (List UInt8))(W:World)(hL:(jn ws).length<=1048576)(hn:∀w∈ws,no 32 w)(hR:Iy W rb (jn ws))(hE:MR u pv W)(h0:rb≠0):
 Calls prog 74 #[.pointer rb] W fun e W'=>dq u pv rb W ws e W':=by
 refine(XW u pv rb (jn ws) W hL hR hE h0).mono ?_;intro e W' h;cases ws with
 |nil=>
  rw[Zd]at h;rcases h with⟨h,_⟩|⟨_,h2,h3⟩
  ·cases h
  ·exact Or.inr ⟨(fun x r e=>nomatch e),h2,h3⟩
 |cons x r=>
  rw[VV (hn x (List.mem_cons_self ..))]at h;rcases h with⟨_,h1,a,kk,h2,h3,h4,h5⟩|⟨h1,h2,h3⟩
  ·exact Or.inl ⟨x,r,a,kk,rfl,h1,h2,h3,h4,h5⟩
  ·exact Or.inr ⟨fun y s e=>by cases e;simpa using h1,h2,h3⟩
theorem YQ{ws:List (List UInt8)}{d:TD}(h:JA ws=some d):∃a b c e r,ws=a::b::c::e::r/\okD a=true/\(Al b).2.2=true/\(Al c).2.2=true/\okD e=true/\r.all okD=true:=by
 unfold JA at h;split at h
 ·rename_i hh;obtain⟨n,h0,h1,h2,h3,h4⟩:=hh;match ws,n with
  |w0::w1::w2::w3::r,_=>exact⟨w0,w1,w2,w3,r,rfl,h0,h1,h2,h3,h4⟩
 ·cases h
theorem bq{a b c e:List UInt8}{r:List (List UInt8)}(h0:okD a=true)(h1:(Al b).2.2=true)(h2:(Al c).2.2=true)(h3:okD e=true)(h4:r.all okD=true):JA (a::b::c::e::r)=some ⟨Bb a,(Al b).1,(Al b).2.1,(Al c).1,(Al c).2.1,Bb e,r.map Bb⟩:=by
 unfold JA;rw[if_pos ⟨by simp,h0,h1,h2,h3,h4⟩];rfl
theorem IV{ws:List (List UInt8)}(h:∀a b c e r,ws=a::b::c::e::r->okD a=true->(Al b).2.2=true->(Al c).2.2=true->okD e=true->r.all okD=true->False):JA ws=none:=by
 cases hs:JA ws with
 |none=>rfl
 |some d=>
  obtain⟨a,b,c,e,r,h0,h1,h2,h3,h4,h5⟩:=YQ hs;exact absurd (h a b c e r h0 h1 h2 h3 h4 h5) (fun x=>x)
theorem Gv(tmps:Array Value)(W:World)(P:Nat)(x0 x1 x2 x3 x4 x5 x6:Value)(h:Ai W P (.cells #[x0,x1,x2,x3,x4,x5,x6] 47))(h2:tmps[2]? =some (.pointer P)):
 (results Tryz.f44 tmps).run prog W= .ok (.agg #[x0,x1,x2,x3,x4,x5,x6]) W:=by
 obtain⟨z0,z1,z2,z3,z4,z5,z6⟩:=h.sevenF;simp[results,Tryz.results44,go_sem,h2,z0,z1,z2,z3,z4,z5,z6]
def dr(u:TypeId)(pv:Value)(rb:Nat)(W:World)(ws:List (List UInt8))(e:Ending)(W':World):Prop:=(∃(d:TD) (x:Af),JA ws=some d/\e= .returned x.val/\d.v.same x/\x.new W W'/\(x.own.n<=x.own.k/\x.own.k<=maxLen)/\x.cb.Nodup/\W.grownBy W' (some rb))∨(JA ws=none/\e=Be u pv/\W.grownBy W' (some rb))
def dE:Obj:= .cells #[.int .i64 0,.int .i64 0,.slice none 0 0,.int .i64 0,.slice none 0 0,.slice none 0 0,.int .i64 0] 47
theorem VQ(u:TypeId)(pv:Value)(rb:Nat)(ws:List (List UInt8))(W:World)(hL:(jn ws).length<=1048576)(hn:∀w∈ws,no 32 w)(hR:Iy W rb (jn ws))(hE:MR u pv W)(h0:rb≠0):
 Calls prog 44 #[.pointer rb] W fun e W'=>dr u pv rb W ws e W':=by
 have bz:=(Below.refl _ W).alloc nr dE;have Z0:=hid (Ai.new W dE);have G0:=hid (Cm bz (some rb));have lr:=Ai.lt hR;have ne:W.heap.size≠rb:=by omega
 have nx:some W.heap.size≠some rb:=fun e=>ne (Option.some.inj e);have HE0:=hid (hE.below bz);have N1:=hid (Zl u pv rb ws _ hL hn (hR.below bz) (hE.below bz) h0);have HN:=hid hn;clear bz hE hR hn;unfold dE at *;go_enter func44,ntmps44
 go_wp2_with fail
 refine N1.out.mono ?_;rintro e w1 (⟨x0,r0,rfl,k0,rfl,R1,G1⟩|⟨hno,rfl,G1⟩);rotate_left
 ·have en:=IV (ws:=ws) (fun a b c e r h h1 _ _ _ _=>by rw[hno a _ h]at h1;cases h1);unfold Be;go_wp2;exact⟨rfl,Or.inr ⟨en,rfl,AI G0 G1⟩⟩
 have K0:=hid k0;have Z1:=hid (Z0.out.grown G1 nx);have lt0:=Z1.out.lt;have GG1:=hid (AI G0 G1);have E1:=hid (HE0.out.grown G1 h0);have l0:(jn r0).length<=1048576:=by rw[Eh]at hL;simp at hL;omega
 have N2:=hid (ag u pv rb r0 _ l0 (fun w hw=>HN w (List.mem_cons_of_mem _ hw)) R1 E1 h0);have s1:=GG1.out.size;clear N1 Z0 G0 HE0 R1 G1 k0;go_wp2_with fail
 refine N2.out.mono ?_;rintro e w2 (⟨x1,r1,a1,k1,rfl,o1,rfl,O1,R2,G2⟩|⟨hno,rfl,G2⟩);rotate_left
 ·have en:=IV (ws:=x0::r0) (fun a b c e r h _ h1 _ _ _=>by rw[hno b _ (List.cons.inj h).2]at h1;cases h1);unfold Be;go_wp2;exact⟨rfl,Or.inr ⟨en,rfl,AI GG1 G2⟩⟩
 have K1:=hid o1;have OL1:=hid O1;have O12:=hid O1;have Z2:=hid (Z1.out.grown G2 nx);have GG2:=hid (AI GG1 G2);have E2:=hid (E1.out.grown G2 h0);have l1:(jn r1).length<=1048576:=by rw[Eh]at l0;simp at l0;omega
 have N3:=hid (ag u pv rb r1 _ l1 (fun w hw=>HN w (List.mem_cons_of_mem _ (List.mem_cons_of_mem _ hw))) R2 E2 h0);have s2:=G2.size;clear N2 Z1 GG1 E1 R2 G2 o1 O1;go_wp2_with fail
 refine N3.out.mono ?_;rintro e w3 (⟨x2,r2,a2,k2,rfl,o2,rfl,O2,R3,G3⟩|⟨hno,rfl,G3⟩);rotate_left
 ·have en:=IV (ws:=x0::x1::r1) (fun a b c e r h _ _ h1 _ _=>by rw[hno c _ (List.cons.inj (List.cons.inj h).2).2]at h1;cases h1);unfold Be;go_wp2;exact⟨rfl,Or.inr ⟨en,rfl,AI GG2 G3⟩⟩
 have K2:=hid o2;have OL2:=hid O2;have OM1:=hid (An.past OL1 G3 (by omega));have Z3:=hid (Z2.out.grown G3 nx);have GG3:=hid (AI GG2 G3);have E3:=hid (E2.out.grown G3 h0);have l2:(jn r2).length<=1048576:=by rw[Eh]at l1;simp at l1;omega
 have N4:=hid (Zl u pv rb r2 _ l2 (fun w hw=>HN w (List.mem_cons_of_mem _ (List.mem_cons_of_mem _ (List.mem_cons_of_mem _ hw)))) R3 E3 h0);have s3:=G3.size;clear N3 Z2 GG2 E2 R3 G3 o2 O2 OL1;go_wp2_with fail
 refine N4.out.mono ?_;rintro e w4 (⟨x3,r3,rfl,k3,rfl,R4,G4⟩|⟨hno,rfl,G4⟩);rotate_left
 ·have en:=IV (ws:=x0::x1::x2::r2) (fun a b c e r h _ _ _ h1 _=>by rw[hno e _ (List.cons.inj (List.cons.inj (List.cons.inj h).2).2).2]at h1;cases h1);unfold Be;go_wp2;exact⟨rfl,Or.inr ⟨en,rfl,AI GG3 G4⟩⟩
 have K3:=hid k3;have OP1:=hid (An.past OM1 G4 (by omega));have OP2:=hid (An.past OL2 G4 (by omega));have Z4:=hid (Z3.out.grown G4 nx);have GG4:=hid (AI GG3 G4);have E4:=hid (E3.out.grown G4 h0);have l3:(jn r3).length<=1048576:=by rw[Eh]at l2;simp at l2;omega
 have N5:=hid (Nj u pv rb r3 _ l3 (fun w hw=>HN w (List.mem_cons_of_mem _ (List.mem_cons_of_mem _ (List.mem_cons_of_mem _ (List.mem_cons_of_mem _ hw))))) R4 E4 h0);have s4:=G4.size;clear N4 Z3 GG3 E3 R4 G4 k3 OM1 OL2;go_wp2_with fail
 refine N5.out.mono ?_;rintro e w5 (⟨k4,a5,c5,rfl,O5,G5⟩|⟨hno,rfl,G5⟩);rotate_left
 ·have en:=IV (ws:=x0::x1::x2::x3::r3) (fun a b c e r h _ _ _ _ h1=>by rw[<-(List.cons.inj (List.cons.inj (List.cons.inj (List.cons.inj h).2).2).2).2,hno]at h1;cases h1);unfold Be;go_wp2;exact⟨rfl,Or.inr ⟨en,rfl,AI GG4 G5⟩⟩
 have OQ1:=hid (An.past OP1 G5 (by omega));have OQ2:=hid (An.past OP2 G5 (by omega));have ON:=hid O5;have Z5:=hid (Z4.out.grown G5 nx);have GG5:=hid (AI GG4 G5);have en:=hid (bq K0 K1 K2 K3 k4);have s5:=G5.size;have nl:r3.length<=1048576:=by have:=@VJ r3;omega
 have rl1:=Fx x1;have rl2:=Fx x2;clear N5 Z4 GG4 E4 G5 k4 OP1 OP2 O5 K0 K1 K2 K3 HN hL l0 l1 l2 l3;generalize hx:Al x1=q1 at *;generalize hy:Al x2=q2 at *;obtain⟨b1,c1,_⟩:=q1;obtain⟨b2,c2,_⟩:=q2;simp only at OQ1 OQ2 O12 rl1 rl2 en ⊢;have EM:(r3.map Bb).length=r3.length:=by simp
 have wf:=Z5.out.jC;obtain⟨z0,z1,z2,z3,z4,z5,z6⟩:=Z5.out.sevenF;clear hx hy;have CS:=hid (Z5.out.st7 (.int .i64 (Bb x0)) (.int .i64 b1) (.slice a1 c1.length k1) (.int .i64 b2) (.slice a2 c2.length k2) (.slice a5 r3.length c5) (.int .i64 (Bb x3)));have Q1:=hid (An.sets (P:=W.heap.size) (by omega) [(0,.int .i64 (Bb x0)),(1,.int .i64 b1),(2,.slice a1 c1.length k1),(3,.int .i64 b2),(4,.slice a2 c2.length k2),(5,.slice a5 r3.length c5),(6,.int .i64 (Bb x3))] _ OQ1);have Q2:=hid (An.sets (P:=W.heap.size) (by omega) [(0,.int .i64 (Bb x0)),(1,.int .i64 b1),(2,.slice a1 c1.length k1),(3,.int .i64 b2),(4,.slice a2 c2.length k2),(5,.slice a5 r3.length c5),(6,.int .i64 (Bb x3))] _ OQ2);have QN:=hid (Bo.others (P:=W.heap.size) (fun e=>by have:=FY ON _ e;omega) [(0,.int .i64 (Bb x0)),(1,.int .i64 b1),(2,.slice a1 c1.length k1),(3,.int .i64 b2),(4,.slice a2 c2.length k2),(5,.slice a5 r3.length c5),(6,.int .i64 (Bb x3))] _ ON);have QG:=hid (Lb (P:=W.heap.size) nr [(0,.int .i64 (Bb x0)),(1,.int .i64 b1),(2,.slice a1 c1.length k1),(3,.int .i64 b2),(4,.slice a2 c2.length k2),(5,.slice a5 r3.length c5),(6,.int .i64 (Bb x3))] _ GG5);go_wp2;have n1:=(As.newL Q1 (by omega));have n2:=(As.newL Q2 (by omega));have n3:=Bo.int (a:=a5) (c:=c5) (l:=r3.map Bb) (by rw[EM];exact QN.out) (by rw[EM];omega);have rm:=FN (by have:=QN.out;unfold Bo at this;rw[EM]at this;exact this);rw[EM]at n3;have nd:((⟨a1,c1.length,k1,Az c1,Ay c1⟩:AH).bs++(⟨a2,c2.length,k2,Az c2,Ay c2⟩:AH).bs).Nodup:=by
  have o1:=(As.newL O12 (by omega)).bs;exact Gp n1.bs.1 n2.bs.1 (fun x hx=>(o1.2 x hx).2) (fun x hx=>(n2.bs.2 x hx).1)
 exact bodyPost_ret (Gv _ _ W _ _ _ _ _ _ _ CS rfl) rfl (Or.inl ⟨_,⟨Bb x0,b1,⟨a1,c1.length,k1,Az c1,Ay c1⟩,b2,⟨a2,c2.length,k2,Az c2,Ay c2⟩,⟨a5,r3.length,c5,fun i=>(r3.map Bb).getD i 0⟩,Bb x3⟩,en,rfl,⟨rfl,rfl,⟨rfl,rfl,rfl⟩,rfl,⟨rfl,rfl,rfl⟩,⟨EM.symm,rfl⟩,rfl⟩,⟨n1.low (by omega),n2.low (by omega),n3.low (by omega)⟩,rm,nd,QG⟩)
open Go.BigFrame Go.Shelf
theorem Ji{ops:Array Oper}{oo:Oper}{a:Act}{w:World}{K:Act->World->Prop}{Q:Exit->Act->World->Prop}{E:Prop}(hgd:oo.guard=none)(s x:Operand)
 (ho:oo.op= .call {callee:= .builtin .append,args:=#[s,x],argTypes:=#[49,49]})
 (B:Nat)(v:Value)(l:List (List UInt8))(hs:a.eval s=v)(hown:Bq w B v l)(ad:Option Addr)(c:Nat)(r:List UInt8)(hx:a.eval x= .slice ad 1 c)(hc:Bh w ad 1 [.string (bytesOf r)])
 (hm:l.length<=2000000)(hB:B<=w.heap.size)(d:Option Nat)(hd:oo.dst=d)
 (h:∀(g:Nat) c' w',Bq w' B (.slice g (l.length+1) c') (l++[r])->w.grownBy w' v.ownBlock->K (a.put d (.slice g (l.length+1) c')) w'):
 if Region.wanted oo (yielded ops a.tmps)=true then Oper.wp prog oo a w K Q else E:=by
 subst hd;have hw:Region.wanted oo (yielded ops a.tmps)=true:=by simp[Region.wanted,hgd]
 rw[if_pos hw];obtain⟨a',c',w',hr,h2,h3,_⟩:=FK underlying49 Tryz.info9 rfl (by omega) w oo.type B v l.length (Hf l) hown ad 1 c [.string (bytesOf r)] (by simp) hc (fun u hu=>by simp at hu;subst hu;rfl) (by omega) (by omega) hB;unfold Oper.wp execOp;simp only[ho,resolve,invoke,builtin,Sem.run_bind,Sem.run_pure,Result.andThen_ok,List.map_toArray,List.map_cons,List.map_nil,hs,hx,hr];have e1:Hf l++[Value.string (bytesOf r)]=Hf (l++[r]):=by simp[Hf]
 have e2:(l++[r]).length=l.length+1:=by simp
 rw[e1]at h2;obtain⟨g,cap,hv,_,_⟩:=World.ownsRow.form h2 (by omega);simp only[Value.slice.injEq]at hv;obtain⟨rfl,_,_⟩:=hv;exact h g c' w' (by unfold Bq;rw[e2];exact h2) h3
theorem QT{w w':World}{B k:Nat}{v:Value}{l:List (List UInt8)}{cs:Array Value}{t:TypeId}(hO:Bq w B v l)(hg:w.grownBy w' v.ownBlock)(hk:w.heap[k]? =some (Obj.cells cs t (0,0)))(ht:t≠9):w'.heap[k]? =w.heap[k]?:=hg.block k (Array.getElem?_eq_some_iff.1 hk).1 (fun e=>by
 rcases hO.2 with⟨hv,_⟩|⟨g',cap',cur',hv',_,hgg',_⟩
 ·rw[hv]at e;cases e
 ·rw[hv']at e;cases e;rw[hgg']at hk;simp only[Option.some.injEq,Obj.cells.injEq,and_true]at hk;exact ht hk.2.symm)
theorem Zu(K g n co i M:Nat)(vt iv:Value)(l:List UInt8)(its:List (List UInt8))(row:Array Value)(u0 u1 u2 u3 u5 u6 u7 u8 u9 u11 u12 u14 u15 u16 u17 u18 u19 u20 u21 u22 u23 u24 u25 u26 u27 u28 u29 u30 u31 u32 u33 u34 u35 u36 u37 u38 u39 u40 u41 u42 u43 u44 u45 u46 u47 u48 u49 u50 u51 u52 u53 u54 u55 u56 u57 u58 u59 u60 u61 u62 u63 u64 u65 u66 u67 u68 u69 u70 u71 u72 u73 u74 u75 u76 u77 u78 u79 u80 u81 u82 u83 u84 u85 u86 u87 u88 u89 u90 u91 u92 u93 u94 u95 u96 u97 u98 u99 u100 u101 u102 u103 u104 u105 u106 u107 u108 u109 u110 u111 u112 u113 u114 u115 u116 u117 u118 u119 u120 u121 u122 u123 u124 u125 u126 u127 u128 u129 u130 u131 u132 u133 u134 u135 u136 u137 u138 u139 u140 u141 u142 u143 u144 u145 u146 u147 u148 u149 u150 u151 u152 u153 u154 u155 u156 u157 u158 u159 u160 u161 u162 u163 u164 u165 u166 u167 u168 u169 u170 u171 u172 u173 u174 u175 u176 u177 u178 u179 u180 u181 u182 u183 u184:Value)(V:World)(Q:Exit->Act->World->Prop)(hp:∀c a d v w,Q (.panic c) (Act.put a (some d) v) w->Q (.panic c) a w)
 (hi:i<n)(hK:Ai V K (.cells #[vt,.slice g n co] 27))(hG:Ai V g (.cells row 51))(hI:V.cell? ⟨g,i*10+6,none⟩=some iv)(hO:Bq V M iv its)(hM:M<=V.heap.size)(hl:its.length<=2000000)
 (hQ:∀(q c:Nat) (z161 z162 z163 z164 z165 z166 z167 z168 z169 z170 z171 z172 z173 z174:Value) (W1 W2:World),Below V V W1->W1.grownBy W2 iv.ownBlock->Bq W2 M (.slice q (its.length+1) c) (its++[l])->Q .normal ⟨#[u0,u1,u2,u3,.pointer K,u5,u6,u7,u8,u9,.string (bytesOf l),u11,u12,.int .i64 (i:Int),u14,u15,u16,u17,u18,u19,u20,u21,u22,u23,u24,u25,u26,u27,u28,u29,u30,u31,u32,u33,u34,u35,u36,u37,u38,u39,u40,u41,u42,u43,u44,u45,u46,u47,u48,u49,u50,u51,u52,u53,u54,u55,u56,u57,u58,u59,u60,u61,u62,u63,u64,u65,u66,u67,u68,u69,u70,u71,u72,u73,u74,u75,u76,u77,u78,u79,u80,u81,u82,u83,u84,u85,u86,u87,u88,u89,u90,u91,u92,u93,u94,u95,u96,u97,u98,u99,u100,u101,u102,u103,u104,u105,u106,u107,u108,u109,u110,u111,u112,u113,u114,u115,u116,u117,u118,u119,u120,u121,u122,u123,u124,u125,u126,u127,u128,u129,u130,u131,u132,u133,u134,u135,u136,u137,u138,u139,u140,u141,u142,u143,u144,u145,u146,u147,u148,u149,u150,u151,u152,u153,u154,u155,u156,u157,u158,u159,u160,z161,z162,z163,z164,z165,z166,z167,z168,z169,z170,z171,z172,z173,z174,u175,u176,u177,u178,u179,u180,u181,u182,u183,u184],[]⟩ (W2.setCell ⟨g,i*10+6,none⟩ (.slice q (its.length+1) c))):
 Code.wp prog (Code.region 25 #[{dst:=some 161,op:=Op.fieldAddr 27 (Operand.tmp 4) 1,type:=0,pos:= "l10_texts.go:110",after:=#[],guard:=none},{dst:=some 162,op:=Op.load 25 (Operand.tmp 161),type:=25,pos:= "l10_texts.go:110",after:=#[{on:=0,ground:=Ground.data}],guard:=none},{dst:=some 163,op:=Op.move (Operand.tmp 13),type:=3,pos:= "l10_texts.go:110",after:=#[],guard:=none},{dst:=some 164,op:=Op.fieldAddr 27 (Operand.tmp 4) 1,type:=0,pos:= "l10_texts.go:110",after:=#[],guard:=none},{dst:=some 165,op:=Op.load 25 (Operand.tmp 164),type:=25,pos:= "l10_texts.go:110",after:=#[{on:=3,ground:=Ground.data}],guard:=none},{dst:=some 166,op:=Op.move (Operand.tmp 13),type:=3,pos:= "l10_texts.go:110",after:=#[],guard:=none},{dst:=some 167,op:=Op.indexAddr 25 (Operand.tmp 165) (Operand.tmp 166),type:=0,pos:= "l10_texts.go:110",after:=#[{on:=4,ground:=Ground.data},{on:=5,ground:=Ground.data}],guard:=none},{dst:=some 168,op:=Op.fieldAddr 51 (Operand.tmp 167) 5,type:=0,pos:= "l10_texts.go:110",after:=#[{on:=6,ground:=Ground.data}],guard:=none},{dst:=some 169,op:=Op.load 49 (Operand.tmp 168),type:=49,pos:= "l10_texts.go:110",after:=#[{on:=7,ground:=Ground.data}],guard:=none},{dst:=some 170,op:=Op.move (Operand.tmp 10),type:=9,pos:= "l10_texts.go:110",after:=#[],guard:=none},{dst:=some 171,op:=Op.buildSlice 49 1 #[(0,Operand.tmp 170)],type:=49,pos:= "l10_texts.go:110",after:=#[{on:=9,ground:=Ground.data}],guard:=none},{dst:=some 172,op:=Op.call {callee:=Callee.builtin Builtin.append,args:=#[Operand.tmp 169,Operand.tmp 171],argTypes:=#[49,49]},type:=49,pos:= "l10_texts.go:110",after:=#[{on:=8,ground:=Ground.data},{on:=10,ground:=Ground.data}],guard:=none},{dst:=some 173,op:=Op.indexAddr 25 (Operand.tmp 162) (Operand.tmp 163),type:=0,pos:= "l10_texts.go:110",after:=#[{on:=1,ground:=Ground.data},{on:=2,ground:=Ground.data},{on:=0,ground:=Ground.phase},{on:=1,ground:=Ground.phase},{on:=2,ground:=Ground.phase},{on:=3,ground:=Ground.phase},{on:=4,ground:=Ground.phase},{on:=5,ground:=Ground.phase},{on:=6,ground:=Ground.phase},{on:=7,ground:=Ground.phase},{on:=8,ground:=Ground.phase},{on:=9,ground:=Ground.phase},{on:=10,ground:=Ground.phase},{on:=11,ground:=Ground.phase}],guard:=none},{dst:=some 174,op:=Op.fieldAddr 51 (Operand.tmp 173) 5,type:=0,pos:= "l10_texts.go:110",after:=#[{on:=12,ground:=Ground.data},{on:=0,ground:=Ground.phase},{on:=1,ground:=Ground.phase},{on:=2,ground:=Ground.phase},{on:=3,ground:=Ground.phase},{on:=4,ground:=Ground.phase},{on:=5,ground:=Ground.phase},{on:=6,ground:=Ground.phase},{on:=7,ground:=Ground.phase},{on:=8,ground:=Ground.phase},{on:=9,ground:=Ground.phase},{on:=10,ground:=Ground.phase},{on:=11,ground:=Ground.phase}],guard:=none},{dst:=none,op:=Op.store 49 (Operand.tmp 174) (Operand.tmp 172),type:=0,pos:= "l10_texts.go:110",after:=#[{on:=13,ground:=Ground.data},{on:=11,ground:=Ground.data},{on:=11,ground:=Ground.chain},{on:=0,ground:=Ground.phase},{on:=1,ground:=Ground.phase},{on:=2,ground:=Ground.phase},{on:=3,ground:=Ground.phase},{on:=4,ground:=Ground.phase},{on:=5,ground:=Ground.phase},{on:=6,ground:=Ground.phase},{on:=7,ground:=Ground.phase},{on:=8,ground:=Ground.phase},{on:=9,ground:=Ground.phase},{on:=10,ground:=Ground.phase},{on:=11,ground:=Ground.phase}],guard:=none}] true) Q ⟨#[u0,u1,u2,u3,.pointer K,u5,u6,u7,u8,u9,.string (bytesOf l),u11,u12,.int .i64 (i:Int),u14,u15,u16,u17,u18,u19,u20,u21,u22,u23,u24,u25,u26,u27,u28,u29,u30,u31,u32,u33,u34,u35,u36,u37,u38,u39,u40,u41,u42,u43,u44,u45,u46,u47,u48,u49,u50,u51,u52,u53,u54,u55,u56,u57,u58,u59,u60,u61,u62,u63,u64,u65,u66,u67,u68,u69,u70,u71,u72,u73,u74,u75,u76,u77,u78,u79,u80,u81,u82,u83,u84,u85,u86,u87,u88,u89,u90,u91,u92,u93,u94,u95,u96,u97,u98,u99,u100,u101,u102,u103,u104,u105,u106,u107,u108,u109,u110,u111,u112,u113,u114,u115,u116,u117,u118,u119,u120,u121,u122,u123,u124,u125,u126,u127,u128,u129,u130,u131,u132,u133,u134,u135,u136,u137,u138,u139,u140,u141,u142,u143,u144,u145,u146,u147,u148,u149,u150,u151,u152,u153,u154,u155,u156,u157,u158,u159,u160,u161,u162,u163,u164,u165,u166,u167,u168,u169,u170,u171,u172,u173,u174,u175,u176,u177,u178,u179,u180,u181,u182,u183,u184],[]⟩ V:=by
 have V0:Below V V V.drew:=(Below.refl _ V).drew;have i0:(0:Int)<=(i:Int):=by omega
 have i1:(i:Int)<(n:Int):=by omega
 have hgl:=hG.lt;have n2:No (.cells #[vt,.slice g n co] 27):=⟨⟩;refine Av 14 (fun W=>Ai W K n2/\W.cell? ⟨g,i*10+6,none⟩=some iv) (by kernel_rfl) ?_;have K0:=hK.below V0;have G0:=hG.below V0;have C0:V.drew.cell? ⟨g,i*10+6,none⟩=some iv:=(V0.cell (p:=⟨g,i*10+6,none⟩) hgl).trans hI;have O0:=hO.below V0;have M0:M<=V.drew.heap.size:=Nat.le_trans hM V0.size;generalize V.drew=w0 at *;have n4:Nv (.pointer (some ⟨K,1,none⟩)):=⟨⟩;refine tr 0 161 n4 ⟨K0,C0⟩ ?_ (hQ:=fun c a w h=>hp c a _ _ w h);have n3:Nv (.slice g n co):=⟨⟩;refine tr 1 162 n3 ⟨K0,C0⟩ ?_ (hy:=fun W h=>by obtain⟨y0,y1⟩:=h.1.two;go_simp) (hQ:=fun c a w h=>hp c a _ _ w h);refine tr 2 163 (.int .i64 (i:Int)) ⟨K0,C0⟩ ?_ (hQ:=fun c a w h=>hp c a _ _ w h);refine tr 3 164 n4 ⟨K0,C0⟩ ?_ (hQ:=fun c a w h=>hp c a _ _ w h);refine tr 4 165 n3 ⟨K0,C0⟩ ?_ (hy:=fun W h=>by obtain⟨y0,y1⟩:=h.1.two;go_simp) (hQ:=fun c a w h=>hp c a _ _ w h);refine tr 5 166 (.int .i64 (i:Int)) ⟨K0,C0⟩ ?_ (hQ:=fun c a w h=>hp c a _ _ w h);refine tr 6 167 (.pointer (some ⟨g,i*10,none⟩)) ⟨K0,C0⟩ ?_ (hQ:=fun c a w h=>hp c a _ _ w h);refine tr 7 168 (.pointer (some ⟨g,i*10+6,none⟩)) ⟨K0,C0⟩ ?_ (hQ:=fun c a w h=>hp c a _ _ w h);refine tr 8 169 (iv) ⟨K0,C0⟩ ?_ (hy:=fun W h=>by have cc:=h.2;go_simp) (hQ:=fun c a w h=>hp c a _ _ w h);refine tr 9 170 (.string (bytesOf l)) ⟨K0,C0⟩ ?_ (hQ:=fun c a w h=>hp c a _ _ w h);refine Ab (i:=10) (by kernel_rfl) rfl ?_;intro KK hKK;have n1:No (.cells #[.string (bytesOf l)] 9):=⟨⟩;have B1:=V0.alloc V0.size n1;have K1:=K0.alloc n1;have G1:=G0.alloc n1;have C1:(w0.alloc n1).cell? ⟨g,i*10+6,none⟩=some iv:=(((Below.refl _ w0).alloc nr n1).cell (p:=⟨g,i*10+6,none⟩) G0.lt).trans C0;have O1:=O0.alloc n1;have L1:=P8 (w:=w0) (bytesOf l);have M1:M<=(w0.alloc n1).heap.size:=Nat.le_trans M0 (by simp);go_simp;refine hKK _ _ (fun _=>⟨K1,C1⟩) ?_;clear hKK KK;try simp only[ap,List.set]
 generalize w0.alloc n1=w1 at *;refine Ab (i:=11) (by kernel_rfl) rfl ?_;intro KK hKK;refine Ji (by rfl) _ _ (by rfl) M iv its (by rfl) O1 _ 1 l (by rfl) L1 hl M1 (some 172) (by rfl) ?_;intro q c w2 O2 g2;have K2:Ai w2 K n2:=(QT O1 g2 K1 (by decide)).trans K1;have G2:Ai w2 g (.cells row 51):=(QT O1 g2 G1 (by decide)).trans G1;have C2:w2.cell? ⟨g,i*10+6,none⟩=some iv:=by
  rw[<-C1];unfold World.cell?;rw[show w2.heap[g]? =w1.heap[g]? from QT O1 g2 G1 (by decide)]
 refine hKK _ _ (fun _=>⟨K2,C2⟩) ?_;clear hKK KK;simp only[ap,List.set];refine Ab (i:=12) (by kernel_rfl) rfl ?_;intro KK hKK;go_simp;refine hKK _ _ (fun _=>⟨K2,C2⟩) ?_;clear hKK KK;try simp only[ap,List.set]
 refine Ab (i:=13) (by kernel_rfl) rfl ?_;intro KK hKK;go_simp;refine hKK _ _ (fun _=>⟨K2,C2⟩) ?_;clear hKK KK;try simp only[ap,List.set]
 refine Ab (i:=14) (by kernel_rfl) rfl ?_;intro KK hKK;have wf:=G2.jC;go_simp;refine hKK _ _ (fun h=>absurd h (by decide)) ?_;clear hKK KK;refine Ao (by kernel_rfl) ?_ _;exact hQ q c _ _ _ _ _ _ _ _ _ _ _ _ _ _ w1 w2 B1 g2 O2
theorem Iv{ops:Array Oper}{o:Oper}{a:Act}{w:World}{K:Act->World->Prop}{Q:Exit->Act->World->Prop}{E:Prop}(hw:Region.wanted o (yielded ops a.tmps)=true)(f:Nat)(x:Operand)(ats:Array TypeId)
 (ho:o.op= .call {callee:= .value (.func f),args:=#[x],argTypes:=ats})(eg:∀args w,(callFunc f args).run prog w= .ok (.enter f args) w)(v0:Value)(hv:a.eval x=v0)
 (d:Option Nat)(hd:o.dst=d)(R:Value->World->Prop)(T:List PanicEntry->World->Prop)(hc:Calls prog f #[v0] w fun e w'=>(∃v,e= .returned v/\R v w')∨(∃c,e= .panicked c/\T c w'))(h:∀v w',R v w'->K (a.put d v) w')(hp:∀c w',T c w'->Q (.panic c) a w'):
 if Region.wanted o (yielded ops a.tmps)=true then Oper.wp prog o a w K Q else E:=by
 rw[if_pos hw];have e:(execOp a.eval o).run prog w= .ok (.enter f #[v0]) w:=by
  unfold execOp;simp only[ho,resolve,invoke,Sem.run_bind,List.map_toArray,List.map_cons,List.map_nil,hv];simp[go_sem,eg,Act.eval]
 unfold Oper.wp;rw[e,Oper.upon_enter];refine hc.mono fun e w' hh=>?_;rcases hh with⟨v,rfl,hr⟩|⟨c,rfl,ht⟩
 ·rw[hd];exact h v w' hr
 ·exact hp c w' ht
theorem Sx{w:World}{B1 B2 t1 t2 s1 s2 n1 n2:Nat}{v1 v2:Value}{c1 c2:List Value}(h1:w.ownsRow B1 t1 s1 v1 n1 c1)(h2:w.ownsRow B2 t2 s2 v2 n2 c2)(ht:t1≠t2):v1.ownBlock=none∨v1.ownBlock≠v2.ownBlock:=by
 rcases h1.2 with⟨rfl,_⟩|⟨g,cap,cur,rfl,_,hg,_⟩
 ·exact .inl rfl
 ·refine .inr (fun e=>?_);rcases h2.2 with⟨rfl,_⟩|⟨g',cap',cur',rfl,_,hg',_⟩
  ·cases e
  ·have:g=g':=Option.some.inj e;subst this;rw[hg']at hg;simp only[Option.some.injEq,Obj.cells.injEq,and_true]at hg;exact ht hg.2.symm
theorem Dq{a b c:World}{row:Option Nat}{P:Nat}(h:a.grownBy b row)(k:b.grownBy c (some P))(hP:a.heap.size<=P):a.grownBy c row:=
 ⟨k.os.trans h.os,k.tape.trans h.tape,k.output.trans h.output,Nat.le_trans h.size k.size,fun j hj hne=>(k.block j (Nat.lt_of_lt_of_le hj h.size) (fun e=>by have:=Option.some.inj e;omega)).trans (h.block j hj hne)⟩
theorem Bq.past{w w':World}{B P:Nat}{v:Value}{l:List (List UInt8)}(h:Bq w B v l)(hg:w.grownBy w' (some P))(hP:P<B):Bq w' B v l:=by
 refine⟨h.1,?_⟩;rcases h.2 with hn|⟨g,cap,cur,hv,hbg,hgg,rest⟩
 ·exact .inl hn
 ·exact .inr ⟨g,cap,cur,hv,hbg,(hg.block g (Array.getElem?_eq_some_iff.1 hgg).1 (fun e=>by have:=Option.some.inj e;omega)).trans hgg,rest⟩
structure Se(u:TypeId)(pv:Value)(W wr:World)(rb ob:Nat)(x0 x1 x2 b1 b2:Int)(v1 v2 vn iv:Value)(l1 l2:List (Int×Int))(ows:List Int)(dat:List UInt8)(is:List (List UInt8))(Q:List UInt8):Prop where
 z:Ai wr W (.cells #[.int .i64 0,.int .i64 0,.int .i64 0,.int .i64 0,.slice none 0 0,.string (ByteArray.mk #[]),.slice none 0 0,.slice none 0 0,.int .i64 0,.slice none 0 0] 51)
 b:Ai wr ob (.cells #[.int .i64 x0,.int .i64 x1,.int .i64 x2,.int .i64 b1,v1,.string (bytesOf dat),iv,vn,.int .i64 b2,v2] 51)
 o:W.heap.size<ob
 l1:An wr W v1 l1
 l2:An wr W v2 l2
 n:Bo wr W vn ows
 s:Bq wr W iv is
 r:Iy wr rb Q
 e:MR u pv wr
 g:W.grownBy wr (some rb)
section
variable {u:TypeId}{pv:Value}{W wr w':World}{rb ob:Nat}{x0 x1 x2 b1 b2:Int}{v1 v2 vn iv:Value}{l1 l2:List (Int×Int)}{ows:List Int}{dat:List UInt8}{is:List (List UInt8)}{Q Q':List UInt8}
theorem Se.read(h:Se u pv W wr rb ob x0 x1 x2 b1 b2 v1 v2 vn iv l1 l2 ows dat is Q)(hg:wr.grownBy w' (some rb))(hR:Iy w' rb Q')(hr:rb<W.heap.size)(h0:rb≠0):Se u pv W w' rb ob x0 x1 x2 b1 b2 v1 v2 vn iv l1 l2 ows dat is Q':=
 ⟨h.z.grown hg (fun e=>by have:=Option.some.inj e;omega),h.b.grown hg (fun e=>by have:=Option.some.inj e;have:=h.o;omega),h.o,An.past h.l1 hg hr,An.past h.l2 hg hr,Bo.past h.n hg hr,Bq.past h.s hg hr,hR,h.e.grown hg h0,AI h.g hg⟩
theorem Se.below(h:Se u pv W wr rb ob x0 x1 x2 b1 b2 v1 v2 vn iv l1 l2 ows dat is Q)(hb:Below wr wr w'):Se u pv W w' rb ob x0 x1 x2 b1 b2 v1 v2 vn iv l1 l2 ows dat is Q:=
 ⟨h.z.below hb,h.b.below hb,h.o,An.below h.l1 hb,An.below h.l2 hb,h.n.below hb,h.s.below hb,h.r.below hb,h.e.below hb,AI h.g (Cm hb _)⟩
theorem Se.item{p:List UInt8}{iv':Value}(h:Se u pv W wr rb ob x0 x1 x2 b1 b2 v1 v2 vn iv l1 l2 ows dat is Q)(hg:wr.grownBy w' iv.ownBlock)(hO:Bq w' W iv' (is++[p]))(hr:rb<W.heap.size)(hW:0<W.heap.size):
 Ai w' ob (.cells #[.int .i64 x0,.int .i64 x1,.int .i64 x2,.int .i64 b1,v1,.string (bytesOf dat),iv,vn,.int .i64 b2,v2] 51)/\Se u pv W (w'.setCell ⟨ob,6,none⟩ iv') rb ob x0 x1 x2 b1 b2 v1 v2 vn iv' l1 l2 ows dat (is++[p]) Q:=by
 have low:=FY h.s;have ib:iv.ownBlock≠some rb:=fun e=>by have:=low rb e;omega
 have kb:=QT h.s hg h.b (by decide);have kz:=QT h.s hg h.z (by decide);have kr:=QT h.s hg h.r (by decide);have B1:Ai w' ob (.cells #[.int .i64 x0,.int .i64 x1,.int .i64 x2,.int .i64 b1,v1,.string (bytesOf dat),iv,vn,.int .i64 b2,v2] 51):=kb.trans h.b;have G1:W.grownBy w' (some rb):=⟨hg.os.trans h.g.os,hg.tape.trans h.g.tape,hg.output.trans h.g.output,Nat.le_trans h.g.size hg.size,fun j hj hne=>(hg.block j (Nat.lt_of_lt_of_le hj h.g.size) (fun e=>by have:=low j (by first|exact e|exact e.symm);omega)).trans (h.g.block j hj hne)⟩;have a1:An w' W v1 l1:=World.ownsRow.kept h.l1 hg (Sx h.l1 h.s (by decide));have a2:An w' W v2 l2:=World.ownsRow.kept h.l2 hg (Sx h.l2 h.s (by decide));have a3:Bo w' W vn ows:=World.ownsRow.kept h.n hg (Sx h.n h.s (by decide));have oo:=h.o;have ap:∀{B ty sz n:Nat}{v:Value}{cs:List Value},w'.ownsRow B ty sz v n cs->ty≠51->¬v.ownBlock=some ob:=fun{B ty sz n v cs} ho ht e=>by
  rcases ho.2 with⟨rfl,_⟩|⟨g,cap,cur,rfl,_,hg',_⟩
  ·cases e
  ·have:g=ob:=Option.some.inj e;subst this;unfold Ai at B1;rw[hg']at B1;simp only[Option.some.injEq,Obj.cells.injEq,and_true]at B1;exact ht B1.2
 have lset:∀{v:Value}{l:List (Int×Int)},An w' W v l->An (w'.setCell ⟨ob,6,none⟩ iv') W v l:=fun{v l} ho=>by
  refine⟨ho.1,?_⟩;have hne:=ap ho (by decide);rcases ho.2 with hn|⟨g,cap,cur,hv,hbg,hgg,rest⟩
  ·exact .inl hn
  ·exact .inr ⟨g,cap,cur,hv,hbg,(Below.heap_setCell _ _ _ _ (fun e=>hne (by rw[hv];show some g=some ob;rw[e]))).trans hgg,rest⟩
 refine⟨B1,⟨Ai.other (kz.trans h.z) (by omega) _,B1.jB (i:=6) iv',h.o,lset a1,lset a2,a3.other (ap a3 (by decide)) _,hO.other (ap hO (by decide)) _,Ai.other (kr.trans h.r) (by omega) _,⟨?_,?_⟩,Ey G1 (by omega) _ _⟩⟩
 ·have e0:w'.heap[0]? =wr.heap[0]?:=hg.block 0 h.e.2 (fun e=>by have:=low 0 (by first|exact e|exact e.symm);omega);have e1:(w'.setCell ⟨ob,6,none⟩ iv').heap[0]? =w'.heap[0]?:=Below.heap_setCell _ _ _ _ (by show 0≠ob;omega);rw[<-h.e.1];unfold World.cell?;rw[e1,e0]
 ·have:=h.e.2;have:=hg.size;simp only[nblk_setCell];omega
end
theorem QE:∀(n m:Nat) (is:List (List UInt8)) (R:List UInt8),R.length<n->R.length<m->JG n is R=JG m is R
 |0,_,_,_,h,_=>by omega
 |_,0,_,_,_,h=>by omega
 |n+1,m+1,is,R,h1,h2=>by
  rw[JG,JG];cases ht:Bf En R with
  |none=>rfl
  |some Q=>
   have:=Fy ht;have:=@Kt Q;simp only;rw[QE n m _ _ (by omega) (by omega)]
def sI(is:List (List UInt8))(R:List UInt8):Option (List (List UInt8)×List UInt8):=JG (R.length+1) is R
theorem cH{is:List (List UInt8)}{R:List UInt8}(h:Bf En R=none):sI is R=some (is,R):=by unfold sI;rw[JG,h]
theorem bj{is:List (List UInt8)}{R Q:List UInt8}(h:Bf En R=some Q)(hf:(Ak 10 Q).2.2=false):sI is R=none:=by unfold sI;rw[JG,h];simp[hf]
theorem aS{is:List (List UInt8)}{R Q:List UInt8}(h:Bf En R=some Q)(hf:(Ak 10 Q).2.2=true):sI is R=sI (is++[(Ak 10 Q).1]) (Ak 10 Q).2.1:=by
 have e:sI is R=JG R.length (is++[(Ak 10 Q).1]) (Ak 10 Q).2.1:=by
  unfold sI;rw[JG,h];simp only;rw[if_pos hf]
 rw[e];have:=Fy h;have:=@Kt Q;exact QE _ _ _ _ (by omega) (Nat.lt_succ_self _)
theorem ZM{ws:List (List UInt8)}{d:OD}(h:LP ws=some d):∃a b c e f r,ws=a::b::c::e::f::r/\okD a=true/\okD b=true/\okD c=true/\(Al e).2.2=true/\(Al f).2.2=true/\r.all okD=true:=by
 unfold LP at h;split at h
 ·rename_i hh;obtain⟨n,h0,h1,h2,h3,h4,h5⟩:=hh;match ws,n with
  |w0::w1::w2::w3::w4::r,_=>exact⟨w0,w1,w2,w3,w4,r,rfl,h0,h1,h2,h3,h4,h5⟩
 ·cases h
theorem aU{a b c e f:List UInt8}{r:List (List UInt8)}(h0:okD a=true)(h1:okD b=true)(h2:okD c=true)(h3:(Al e).2.2=true)(h4:(Al f).2.2=true)(h5:r.all okD=true):LP (a::b::c::e::f::r)=some ⟨Bb a,Bb b,Bb c,(Al e).1,(Al e).2.1,(Al f).1,(Al f).2.1,r.map Bb,[],[]⟩:=by
 unfold LP;rw[if_pos ⟨by simp,h0,h1,h2,h3,h4,h5⟩];rfl
theorem Hl{ws:List (List UInt8)}(h:∀a b c e f r,ws=a::b::c::e::f::r->okD a=true->okD b=true->okD c=true->(Al e).2.2=true->(Al f).2.2=true->r.all okD=true->False):LP ws=none:=by
 cases hs:LP ws with
 |none=>rfl
 |some d=>
  obtain⟨a,b,c,e,f,r,h0,h1,h2,h3,h4,h5,h6⟩:=ZM hs;exact absurd (h a b c e f r h0 h1 h2 h3 h4 h5 h6) (fun x=>x)
theorem aT{R Q:List UInt8}(h:Bf Fj R=some Q)(hf:(Ak 10 Q).2.2=true):Dg R=match LP (Aj (Ak 10 Q).1)with
 |none=>none
 |some o=>match Ih (Ak 10 Q).2.1 with
  |none=>none
  |some d=>match sI [] d.2 with
   |none=>none
   |some i=>some ({o with data:=d.1,jA:=i.1},i.2):=by
 unfold Dg;rw[h];simp only;rw[if_pos hf];rfl
theorem Xh{R:List UInt8}(h:Bf Fj R=none):Dg R=none:=by unfold Dg;rw[h]
theorem XC{R Q:List UInt8}(h:Bf Fj R=some Q)(hf:(Ak 10 Q).2.2=false):Dg R=none:=by unfold Dg;rw[h];simp[hf]
theorem Rp(tmps:Array Value)(W:World)(P:Nat)(x0 x1 x2 x3 x4 x5 x6 x7 x8 x9:Value)(h:Ai W P (.cells #[x0,x1,x2,x3,x4,x5,x6,x7,x8,x9] 51))(h2:tmps[2]? =some (.pointer P)):
 (results Tryz.f45 tmps).run prog W= .ok (.agg #[x0,x1,x2,x3,x4,x5,x6,x7,x8,x9]) W:=by
 obtain⟨z0,z1,z2,z3,z4,z5,z6,z7,z8,z9⟩:=h.jE;simp[results,Tryz.results45,go_sem,h2,z0,z1,z2,z3,z4,z5,z6,z7,z8,z9]
end Go.Proofs.YtblapfnglojgjaaGreatDoor
