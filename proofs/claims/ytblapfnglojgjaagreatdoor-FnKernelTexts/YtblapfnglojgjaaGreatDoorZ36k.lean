import Derived.Test.YtblapfnglojgjaaGreatDoorZ35k
set_option maxRecDepth 100000
set_option maxHeartbeats 16000000
namespace Go.Proofs.YtblapfnglojgjaaGreatDoor
open Go Go.RowKit Go.Deep Go.Maps Go.BigFrame Go.Shelf Go.Proofs.Tryz
def dM(u:TypeId)(pv:Value)(rb:Nat)(W:World)(R:List UInt8)(e:Ending)(W':World):Prop:=(∃(d:OD) (q:List UInt8) (x:Ae),Dg R=some (d,q)/\e= .returned x.val/\d.v.same x/\x.new W W'/\(x.jA.n<=x.jA.k/\x.jA.k<=maxLen)/\x.cb.Nodup/\d.data.length<=1048576/\Iy W' rb q/\W.grownBy W' (some rb))∨(Dg R=none/\e=Be u pv/\W.grownBy W' (some rb))
def YJ(w:World)(rb:Nat):Nat:=match w.cell? ⟨rb,0,none⟩with
 |some (.string s)=>s.size
 |_=>0
theorem MM{w:World}{rb:Nat}{R:List UInt8}(h:Iy w rb R):YJ w rb=R.length:=by
 unfold YJ;rw[Ai.one h];exact Au R
section
variable {u:TypeId}{pv:Value}{W wr w':World}{rb ob:Nat}{x0 x1 x2 b1 b2:Int}{v1 v2 vn iv:Value}{l1 l2:List (Int×Int)}{ows:List Int}{dat:List UInt8}{is:List (List UInt8)}{Q:List UInt8}
theorem Se.sets(h:Se u pv W wr rb ob x0 x1 x2 b1 b2 v1 v2 vn iv l1 l2 ows dat is Q){P i:Nat}{cs:Array Value}(hB:Ai wr P (.cells cs 51))(hP:W.heap.size<=P)(hr:rb<W.heap.size)(hW:0<W.heap.size)(v:Value):An (wr.setCell ⟨P,i,none⟩ v) W v1 l1/\An (wr.setCell ⟨P,i,none⟩ v) W v2 l2/\Bo (wr.setCell ⟨P,i,none⟩ v) W vn ows/\Bq (wr.setCell ⟨P,i,none⟩ v) W iv is/\Iy (wr.setCell ⟨P,i,none⟩ v) rb Q/\MR u pv (wr.setCell ⟨P,i,none⟩ v)/\W.grownBy (wr.setCell ⟨P,i,none⟩ v) (some rb):=by
 have ap:∀{B ty sz n:Nat}{v:Value}{cs:List Value},wr.ownsRow B ty sz v n cs->ty≠51->¬v.ownBlock=some P:=fun{B ty sz n v cs} ho ht e=>by
  rcases ho.2 with⟨rfl,_⟩|⟨g,cap,cur,rfl,_,hg',_⟩
  ·cases e
  ·have:g=P:=Option.some.inj e;subst this;unfold Ai at hB;rw[hg']at hB;simp only[Option.some.injEq,Obj.cells.injEq,and_true]at hB;exact ht hB.2
 have lset:∀{v':Value}{l:List (Int×Int)},An wr W v' l->An (wr.setCell ⟨P,i,none⟩ v) W v' l:=fun{v' l} ho=>by
  refine⟨ho.1,?_⟩;have hne:=ap ho (by decide);rcases ho.2 with hn|⟨g,cap,cur,hv,hbg,hgg,rest⟩
  ·exact .inl hn
  ·exact .inr ⟨g,cap,cur,hv,hbg,(Below.heap_setCell _ _ _ _ (fun e=>hne (by rw[hv];show some g=some P;rw[e]))).trans hgg,rest⟩
 refine⟨lset h.l1,lset h.l2,h.n.other (ap h.n (by decide)) _,h.s.other (ap h.s (by decide)) _,Ai.other h.r (by omega) _,⟨?_,?_⟩,Ey h.g hP _ _⟩
 ·have e1:(wr.setCell ⟨P,i,none⟩ v).heap[0]? =wr.heap[0]?:=Below.heap_setCell _ _ _ _ (by show 0≠P;omega);rw[<-h.e.1];unfold World.cell?;rw[e1]
 ·have:=h.e.2;simp only[nblk_setCell];omega
theorem Se.putDat(h:Se u pv W wr rb ob x0 x1 x2 b1 b2 v1 v2 vn iv l1 l2 ows dat is Q)(hr:rb<W.heap.size)(hW:0<W.heap.size)(d:List UInt8):Se u pv W (wr.setCell ⟨ob,5,none⟩ (.string (bytesOf d))) rb ob x0 x1 x2 b1 b2 v1 v2 vn iv l1 l2 ows d is Q:=by
 have o:=h.o;obtain⟨s1,s2,s3,s4,s5,s6,s7⟩:=h.sets (i:=5) h.b (Nat.le_of_lt o) hr hW (.string (bytesOf d));exact⟨Ai.other h.z (by omega) _,h.b.jB (i:=5) _,h.o,s1,s2,s3,s4,s5,s6,s7⟩
end
theorem SJ{w:World}{B ty sz n P t:Nat}{v:Value}{cs:List Value}{c:Array Value}(ho:w.ownsRow B ty sz v n cs)(hB:Ai w P (.cells c t))(ht:ty≠t):¬v.ownBlock=some P:=fun e=>by
 rcases ho.2 with⟨rfl,_⟩|⟨g,cap,cur,rfl,_,hg',_⟩
 ·cases e
 ·have:g=P:=Option.some.inj e;subst this;unfold Ai at hB;rw[hg']at hB;simp only[Option.some.injEq,Obj.cells.injEq,and_true]at hB;exact ht hB.2
theorem J6{B ty sz n P:Nat}{v:Value}{cs:List Value}(hne:¬v.ownBlock=some P):∀(l:List (Nat×Value)) (w:World),w.ownsRow B ty sz v n cs->(KQ w P l).ownsRow B ty sz v n cs
 |[],_,h=>h
 |(_,x)::l,w,h=>J6 hne l _ (by
  refine⟨h.1,?_⟩;rcases h.2 with hn|⟨g,cap,cur,hv,hbg,hgg,rest⟩
  ·exact .inl hn
  ·exact .inr ⟨g,cap,cur,hv,hbg,(Below.heap_setCell _ _ _ _ (fun e=>hne (by rw[hv];show some g=some P;rw[e]))).trans hgg,rest⟩)
theorem Uw{P Q:Nat}{o:Obj}(hne:P≠Q):∀(l:List (Nat×Value)) (w:World),Ai w Q o->Ai (KQ w P l) Q o
 |[],_,h=>h
 |(_,x)::l,_,h=>Uw hne l _ (h.other hne x)
def dC:Obj:= .cells #[.int .i64 0,.int .i64 0,.int .i64 0,.int .i64 0,.slice none 0 0,.string (ByteArray.mk #[]),.slice none 0 0,.slice none 0 0,.int .i64 0,.slice none 0 0] 51
theorem VA(u:TypeId)(pv:Value)(rb:Nat)(R:List UInt8)(W:World)(hL:R.length<=1000000)(hR:Iy W rb R)(hE:MR u pv W)(h0:rb≠0):
 Calls prog 45 #[.pointer rb] W fun e W'=>dM u pv rb W R e W':=by
 have bz:=(Below.refl _ W).alloc nr dC;have Z0:=hid (Ai.new W dC);have G0:=hid (Cm bz (some rb));have lr:=Ai.lt hR;have ne:W.heap.size≠rb:=by omega
 have nx:some W.heap.size≠some rb:=fun e=>ne (Option.some.inj e);have HE0:=hid (hE.below bz);have T1:=hid (Ke rb R Fj _ (by decide) (hR.below bz));have EN:Hid (∀args w,(callFunc 76 args).run prog w= .ok (.enter 76 args) w):=hid (enters_of func76 (by kernel_rfl) rfl);clear bz hE hR;unfold dC at *;go_enter func45,ntmps45
 go_wp2_with fail
 refine T1.out.mono ?_;rintro e w1 ⟨rfl,R1,G1⟩;have Z1:=hid (Z0.out.grown G1 nx);have lt0:=Z1.out.lt;have GG1:=hid (AI G0 G1);have E1:=hid (HE0.out.grown G1 h0);clear T1 Z0 G0 HE0 G1;cases ht:Bf Fj R with
 |none=>
  have en:=Xh ht;go_wp2_with(go_at_call 46;refine(Km u pv _ E1).mono ?_;rintro e w2 ⟨rfl,rfl⟩;unfold Be)
  exact⟨rfl,Or.inr ⟨en,rfl,GG1⟩⟩
 |some Q=>
 have ql:=Fy ht;rw[ht]at R1;have HT:=hid ht;have RR1:Hid (Iy w1 rb Q):=hid R1;clear ht R1;go_wp2_with(go_at_call 46;refine(Jb _).mono ?_;rintro e w2 ⟨rfl,rfl⟩)
 have LN:=hid (QX u pv rb Q w2 (by omega) RR1 E1);refine LN.out.mono ?_;have q1:=Cs 10 Q;have q2:=Dc 10 Q;rintro e w3 (⟨hf,lb,rfl,hlb,Rl,R3,G3⟩|⟨hf,rfl,G3⟩);rotate_left
 ·have en:=XC HT hf;unfold Be;go_wp2;exact⟨rfl,Or.inr ⟨en,rfl,AI GG1 G3⟩⟩
 have EQ:=hid (aT HT hf);have Z3:=hid (Z1.out.grown G3 nx);have GG3:=hid (AI GG1 G3);have E3:=hid (E1.out.grown G3 h0);have RB3:=hid R3;have lb0:lb≠0:=by omega
 have lbr:rb≠lb:=by have:=RR1.out.lt;omega
 have lbw:W.heap.size<lb:=by omega
 have lnx:some W.heap.size≠some lb:=fun e=>by have:=Option.some.inj e;omega
 have ll3:=Ai.lt Rl;rw[Lx]at Rl;have RL3:=hid Rl;have HN:=hid (Tx (Ak 10 Q).1);have jl:(jn (Aj (Ak 10 Q).1)).length<=1048576:=by rw[<-Lx];simp;omega
 clear LN Z1 GG1 E1 RR1 G3 R3 Rl hf;generalize Aj (Ak 10 Q).1=ws at *;generalize (Ak 10 Q).2.1=Q2 at *;have N0:=hid (Zl u pv lb ws _ jl (fun w hw=>HN w hw) RL3 E3 lb0);go_wp2_with fail
 refine N0.out.mono ?_;rintro e w4 (⟨x0,r0,rfl,k0,rfl,Rl,G4⟩|⟨hno,rfl,G4⟩);rotate_left
 ·have en:=Hl (ws:=ws) (fun a b c e f r h h1 _ _ _ _ _=>by rw[hno a _ (h)]at h1;cases h1);have eo:Dg R=none:=by rw[EQ.out,en]
  unfold Be;go_wp2;exact⟨rfl,Or.inr ⟨eo,rfl,Dq GG3 G4 (Nat.le_of_lt lbw)⟩⟩
 have K0:=hid k0;have Z4:=hid (Z3.out.grown G4 lnx);have GG4:=hid (Dq GG3 G4 (Nat.le_of_lt lbw));have E4:=hid (E3.out.grown G4 lb0);have RB4:=hid (RB3.out.grown G4 lbr);have RL4:=hid Rl;have sz4:=G4.size;have jl0:(jn r0).length<=1048576:=by rw[Eh]at jl;simp at jl;omega
 clear N0 Z3 GG3 E3 RB3 RL3 Rl G4 k0;have N1:=hid (Zl u pv lb r0 _ jl0 (fun w hw=>HN w (List.mem_cons_of_mem _ hw)) RL4 E4 lb0);go_wp2_with fail
 refine N1.out.mono ?_;rintro e w5 (⟨x1,r1,rfl,k1,rfl,Rl,G5⟩|⟨hno,rfl,G5⟩);rotate_left
 ·have en:=Hl (ws:=x0::r0) (fun a b c e f r h _ h1 _ _ _ _=>by rw[hno b _ ((List.cons.inj h).2)]at h1;cases h1);have eo:Dg R=none:=by rw[EQ.out,en]
  unfold Be;go_wp2;exact⟨rfl,Or.inr ⟨eo,rfl,Dq GG4 G5 (Nat.le_of_lt lbw)⟩⟩
 have K1:=hid k1;have Z5:=hid (Z4.out.grown G5 lnx);have GG5:=hid (Dq GG4 G5 (Nat.le_of_lt lbw));have E5:=hid (E4.out.grown G5 lb0);have RB5:=hid (RB4.out.grown G5 lbr);have RL5:=hid Rl;have sz5:=G5.size;have jl1:(jn r1).length<=1048576:=by rw[Eh]at jl0;simp at jl0;omega
 clear N1 Z4 GG4 E4 RB4 RL4 Rl G5 k1;have N2:=hid (Zl u pv lb r1 _ jl1 (fun w hw=>HN w (List.mem_cons_of_mem _ (List.mem_cons_of_mem _ hw))) RL5 E5 lb0);go_wp2_with fail
 refine N2.out.mono ?_;rintro e w6 (⟨x2,r2,rfl,k2,rfl,Rl,G6⟩|⟨hno,rfl,G6⟩);rotate_left
 ·have en:=Hl (ws:=x0::x1::r1) (fun a b c e f r h _ _ h1 _ _ _=>by rw[hno c _ ((List.cons.inj (List.cons.inj h).2).2)]at h1;cases h1);have eo:Dg R=none:=by rw[EQ.out,en]
  unfold Be;go_wp2;exact⟨rfl,Or.inr ⟨eo,rfl,Dq GG5 G6 (Nat.le_of_lt lbw)⟩⟩
 have K2:=hid k2;have Z6:=hid (Z5.out.grown G6 lnx);have GG6:=hid (Dq GG5 G6 (Nat.le_of_lt lbw));have E6:=hid (E5.out.grown G6 lb0);have RB6:=hid (RB5.out.grown G6 lbr);have RL6:=hid Rl;have sz6:=G6.size;have jl2:(jn r2).length<=1048576:=by rw[Eh]at jl1;simp at jl1;omega
 clear N2 Z5 GG5 E5 RB5 RL5 Rl G6 k2;have N3:=hid (ag u pv lb r2 _ jl2 (fun w hw=>HN w (List.mem_cons_of_mem _ (List.mem_cons_of_mem _ (List.mem_cons_of_mem _ hw)))) RL6 E6 lb0);go_wp2_with fail
 refine N3.out.mono ?_;rintro e w7 (⟨x3,r3,a3,kk3,rfl,k3,rfl,OL,Rl,G7⟩|⟨hno,rfl,G7⟩);rotate_left
 ·have en:=Hl (ws:=x0::x1::x2::r2) (fun a b c e f r h _ _ _ h1 _ _=>by rw[hno e _ ((List.cons.inj (List.cons.inj (List.cons.inj h).2).2).2)]at h1;cases h1);have eo:Dg R=none:=by rw[EQ.out,en]
  unfold Be;go_wp2;exact⟨rfl,Or.inr ⟨eo,rfl,Dq GG6 G7 (Nat.le_of_lt lbw)⟩⟩
 have K3:=hid k3;have L3_7:=hid OL;have LB:=hid OL;have Z7:=hid (Z6.out.grown G7 lnx);have GG7:=hid (Dq GG6 G7 (Nat.le_of_lt lbw));have E7:=hid (E6.out.grown G7 lb0);have RB7:=hid (RB6.out.grown G7 lbr);have RL7:=hid Rl;have sz7:=G7.size;have jl3:(jn r3).length<=1048576:=by rw[Eh]at jl2;simp at jl2;omega
 clear N3 Z6 GG6 E6 RB6 RL6 Rl G7 k3 OL;have N4:=hid (ag u pv lb r3 _ jl3 (fun w hw=>HN w (List.mem_cons_of_mem _ (List.mem_cons_of_mem _ (List.mem_cons_of_mem _ (List.mem_cons_of_mem _ hw))))) RL7 E7 lb0);go_wp2_with fail
 refine N4.out.mono ?_;rintro e w8 (⟨x4,r4,a4,kk4,rfl,k4,rfl,OL,Rl,G8⟩|⟨hno,rfl,G8⟩);rotate_left
 ·have en:=Hl (ws:=x0::x1::x2::x3::r3) (fun a b c e f r h _ _ _ _ h1 _=>by rw[hno f _ ((List.cons.inj (List.cons.inj (List.cons.inj (List.cons.inj h).2).2).2).2)]at h1;cases h1);have eo:Dg R=none:=by rw[EQ.out,en]
  unfold Be;go_wp2;exact⟨rfl,Or.inr ⟨eo,rfl,Dq GG7 G8 (Nat.le_of_lt lbw)⟩⟩
 have K4:=hid k4;have L3_8:=hid (An.past L3_7 G8 (by omega));have L4_8:=hid OL;have Z8:=hid (Z7.out.grown G8 lnx);have GG8:=hid (Dq GG7 G8 (Nat.le_of_lt lbw));have E8:=hid (E7.out.grown G8 lb0);have RB8:=hid (RB7.out.grown G8 lbr);have RL8:=hid Rl;have sz8:=G8.size;have jl4:(jn r4).length<=1048576:=by rw[Eh]at jl3;simp at jl3;omega
 clear N4 Z7 GG7 E7 RB7 RL7 Rl G8 k4 OL L3_7;have N5:=hid (Nj u pv lb r4 _ jl4 (fun w hw=>HN w (List.mem_cons_of_mem _ (List.mem_cons_of_mem _ (List.mem_cons_of_mem _ (List.mem_cons_of_mem _ (List.mem_cons_of_mem _ hw)))))) RL8 E8 lb0);go_wp2_with fail
 refine N5.out.mono ?_;rintro e w9 (⟨k5,a5,c5,rfl,ON,G9⟩|⟨hno,rfl,G9⟩);rotate_left
 ·have en:=Hl (ws:=x0::x1::x2::x3::x4::r4) (fun a b c e f r h _ _ _ _ _ h1=>by rw[<-((List.cons.inj (List.cons.inj (List.cons.inj (List.cons.inj (List.cons.inj h).2).2).2).2).2),hno]at h1;cases h1);have eo:Dg R=none:=by rw[EQ.out,en]
  unfold Be;go_wp2;exact⟨rfl,Or.inr ⟨eo,rfl,Dq GG8 G9 (Nat.le_of_lt lbw)⟩⟩
 have en:=hid (aU K0 K1 K2 K3 K4 k5);have L3:=hid (An.past L3_8 G9 (by omega));have L4:=hid (An.past L4_8 G9 (by omega));have LN:=hid ON;have Z9:=hid (Z8.out.grown G9 lnx);have GG9:=hid (Dq GG8 G9 (Nat.le_of_lt lbw));have E9:=hid (E8.out.grown G9 lb0);have RB9:=hid (RB8.out.grown G9 lbr);have sz9:=G9.size;have nl:r4.length<=1048576:=by have:=@VJ r4;omega
 have rl1:=Fx x3;have rl2:=Fx x4;rw[en.out]at EQ;clear N5 L3_8 L4_8 Z8 GG8 E8 RB8 RL8 G9 k5 ON K0 K1 K2 K3 K4 HN jl jl0 jl1 jl2 jl3 jl4 en HT;generalize Al x3=q3 at *;generalize Al x4=q4 at *;obtain⟨b1,c1,_⟩:=q3;obtain⟨b2,c2,_⟩:=q4;simp only at L3 L4 LB rl1 rl2 EQ ⊢;have n5:No (.cells #[.int .i64 (Bb x0),.int .i64 (Bb x1),.int .i64 (Bb x2),.int .i64 b1,.slice a3 c1.length kk3,.string (ByteArray.mk #[]),.slice none 0 0,.slice a5 r4.length c5,.int .i64 b2,.slice a4 c2.length kk4] 51):=⟨⟩;have bb:=(Below.refl _ w9).alloc nr n5;have S0:Hid (Se u pv W (w9.alloc n5) rb w9 (Bb x0) (Bb x1) (Bb x2) b1 b2 (.slice a3 c1.length kk3) (.slice a4 c2.length kk4) (.slice a5 r4.length c5) (.slice none 0 0) c1 c2 (r4.map Bb) [] [] Q2):=hid ⟨Z9.out.below bb,Ai.new _ _,Z9.out.lt,(An.low (An.below L3 bb) (by omega)),(An.low (An.below L4 bb) (by omega)),(Bo.lows (LN.out.below bb) (by omega)),Bq.nil _ _,RB9.out.below bb,E9.out.below bb,AI GG9 (Cm bb _)⟩;have ND:Hid (((⟨a3,c1.length,kk3,Az c1,Ay c1⟩:AH).bs++(⟨a4,c2.length,kk4,Az c2,Ay c2⟩:AH).bs).Nodup):=hid (by
  have o1:=(As.newL LB (by omega)).bs;have n2:=(As.newL L4 (by omega)).bs;exact Gp o1.1 n2.1 (fun x hx=>(o1.2 x hx).2) (fun x hx=>(n2.2 x hx).1))
 have obl:W.heap.size<w9.heap.size:=Z9.out.lt;clear bb L3 L4 LB LN Z9 GG9 E9 RB9;generalize Bb x0=y0 at *;generalize Bb x1=y1 at *;generalize Bb x2=y2 at *;go_upto_region 4 with fail
 generalize w9.alloc (.cells #[.int .i64 y0,.int .i64 y1,.int .i64 y2,.int .i64 b1,.slice a3 c1.length kk3,.string (ByteArray.mk #[]),.slice none 0 0,.slice a5 r4.length c5,.int .i64 b2,.slice a4 c2.length kk4] 51)=wo at *;generalize w9.heap.size=ob at *;have W0:0<W.heap.size:=by omega
 have obr:ob≠rb:=by omega
 have T4:=hid (Ke rb Q2 Hz wo (by decide) S0.out.r);go_wp2_with fail
 refine T4.out.mono ?_;rintro e v1 ⟨rfl,R4,G4⟩;have S1:=hid (S0.out.read G4 R4 lr h0);clear T4 S0 R4 G4;go_upto_if 24 with fail
 go_cut[] from 5 (fun wc=>∃(dat Q3:List UInt8),Se u pv W wc rb ob y0 y1 y2 b1 b2 (.slice a3 c1.length kk3) (.slice a4 c2.length kk4) (.slice a5 r4.length c5) (.slice none 0 0) c1 c2 (r4.map Bb) dat [] Q3/\Ih Q2=some (dat,Q3)/\dat.length<=1000000/\Q3.length<=1000000)
 case first=>
  cases ht:Bf Hz Q2 with
  |none=>
   rw[ht]at S1;have eda:Ih Q2=some ([],Q2):=(by unfold Ih;rw[ht]);go_wp2_with fail
   go_meet;case rel=>exact⟨[],Q2,S1,eda,Nat.zero_le _,by omega⟩
  |some Q3=>
   rw[ht]at S1;have q3:=Fy ht;have p1:=Cs 10 Q3;have p2:=Dc 10 Q3;have TX:=hid (UQ u pv rb Q3 v1 (by omega) S1.out.r S1.out.e);have HT:=hid ht;clear ht;go_wp2_with fail
   refine TX.out.mono ?_;rintro e v2 (⟨hf,rfl,R5,G5⟩|⟨hf,rfl,G5⟩);rotate_left
   ·have eo:Dg R=none:=(by rw[EQ.out];unfold Ih;rw[HT.out];simp[hf]);unfold Be;go_wp2;exact⟨rfl,Or.inr ⟨eo,rfl,AI S1.out.g G5⟩⟩
   have S2:=hid (S1.out.read G5 R5 lr h0);have HF:=hid hf;have bB:=S2.out.b;have wf:=bB.jC;obtain⟨z0,z1,z2,z3,z4,z5,z6,z7,z8,z9⟩:=bB.jE;have S3:=hid (S2.out.putDat lr W0 (Ak 10 Q3).1);clear TX S1 G5 R5 hf;by_cases hp:(Ak 10 Q3).1=[]
   ·have eo:Dg R=none:=(by rw[EQ.out];unfold Ih;rw[HT.out];simp[hp]);have e0:(bytesOf (Ak 10 Q3).1).toList.isEmpty=true:=(by rw[Pk];exact decide_eq_true hp);clear hp;generalize (Ak 10 Q3).1=p at *;go_wp2_with(go_at_call 46;refine(Km u pv _ S3.out.e).mono ?_;rintro e v3 ⟨rfl,rfl⟩;unfold Be)
    exact⟨rfl,Or.inr ⟨eo,rfl,S3.out.g⟩⟩
   ·have eda:Hid (Ih Q2=some ((Ak 10 Q3).1,(Ak 10 Q3).2.1)):=hid (by unfold Ih;rw[HT.out];simp only;rw[if_pos ⟨HF.out,hp⟩]);have e0:(bytesOf (Ak 10 Q3).1).toList.isEmpty=false:=(by rw[Pk];exact decide_eq_false hp);clear hp HF HT;generalize (Ak 10 Q3).1=p at *;generalize (Ak 10 Q3).2.1=Q4 at *;go_wp2_with(go_at_call 46;refine(Jb _).mono ?_;rintro e v3 ⟨rfl,rfl⟩)
    go_meet;case rel=>exact⟨p,Q4,S3,eda,by omega,by omega⟩
 case rest=>
 obtain⟨dat,Q3,hS,hda,dl,ql3⟩:=hcut;have S2:=hid hS;rw[hda]at EQ;clear S1 hS hda;go_wp2;go_loopw [] (fun wr=>∃(is:List (List UInt8)) (Q4:List UInt8) (ia:Option Addr) (ic:Nat),Se u pv W wr rb ob y0 y1 y2 b1 b2 (.slice a3 c1.length kk3) (.slice a4 c2.length kk4) (.slice a5 r4.length c5) (.slice ia is.length ic) c1 c2 (r4.map Bb) dat is Q4/\Hid (sI [] Q3=sI is Q4)/\Hid (is.length+Q4.length<=1000000/\∀y∈is,y.length<=1000000)) (fun wr=>YJ wr rb)
 case atStart=>exact⟨[],Q3,none,0,S2,hid rfl,hid ⟨by simpa using ql3,fun y hy=>by cases hy⟩⟩
 case round=>
  clear S2;obtain⟨is,Q4,ia,ic,hS,HI,HB⟩:=hrel;have S3:=hid hS;clear hS;have T7:=hid (Ke rb Q4 En wr (by decide) S3.out.r);have rn0:Hid (YJ wr rb=Q4.length):=hid (MM S3.out.r);go_wp2_with fail
  refine T7.out.mono ?_;rintro e v1 ⟨rfl,R7,G7⟩;have S4:=hid (S3.out.read G7 R7 lr h0);clear T7 S3 R7 G7;cases ht:Bf En Q4 with
  |none=>
   rw[ht]at S4;have eo:Hid (Dg R=some (⟨y0,y1,y2,b1,c1,b2,c2,r4.map Bb,dat,is⟩,Q4)):=hid (by rw[EQ.out,HI.out,cH ht]);have S5:Hid (Se u pv W v1 rb ob y0 y1 y2 b1 b2 (.slice a3 c1.length kk3) (.slice a4 c2.length kk4) (.slice a5 r4.length c5) (.slice ia is.length ic) c1 c2 (r4.map Bb) dat is Q4):=S4;obtain⟨z0,z1,z2,z3,z4,z5,z6,z7,z8,z9⟩:=S5.out.b.jE;have wf:=S5.out.z.jC;obtain⟨m0,m1,m2,m3,m4,m5,m6,m7,m8,m9⟩:=S5.out.z.jE;clear ht S4 EQ HI;have CS:=hid (S5.out.z.st10 (.int .i64 y0) (.int .i64 y1) (.int .i64 y2) (.int .i64 b1) (.slice a3 c1.length kk3) (.string (bytesOf dat)) (.slice ia is.length ic) (.slice a5 r4.length c5) (.int .i64 b2) (.slice a4 c2.length kk4));have P1:=hid (J6 (SJ S5.out.l1 S5.out.z (by decide)) [(0,.int .i64 y0),(1,.int .i64 y1),(2,.int .i64 y2),(3,.int .i64 b1),(4,.slice a3 c1.length kk3),(5,.string (bytesOf dat)),(6,.slice ia is.length ic),(7,.slice a5 r4.length c5),(8,.int .i64 b2),(9,.slice a4 c2.length kk4)] _ S5.out.l1);have P2:=hid (J6 (SJ S5.out.l2 S5.out.z (by decide)) [(0,.int .i64 y0),(1,.int .i64 y1),(2,.int .i64 y2),(3,.int .i64 b1),(4,.slice a3 c1.length kk3),(5,.string (bytesOf dat)),(6,.slice ia is.length ic),(7,.slice a5 r4.length c5),(8,.int .i64 b2),(9,.slice a4 c2.length kk4)] _ S5.out.l2);have P3:=hid (J6 (SJ S5.out.n S5.out.z (by decide)) [(0,.int .i64 y0),(1,.int .i64 y1),(2,.int .i64 y2),(3,.int .i64 b1),(4,.slice a3 c1.length kk3),(5,.string (bytesOf dat)),(6,.slice ia is.length ic),(7,.slice a5 r4.length c5),(8,.int .i64 b2),(9,.slice a4 c2.length kk4)] _ S5.out.n);have P4:=hid (J6 (SJ S5.out.s S5.out.z (by decide)) [(0,.int .i64 y0),(1,.int .i64 y1),(2,.int .i64 y2),(3,.int .i64 b1),(4,.slice a3 c1.length kk3),(5,.string (bytesOf dat)),(6,.slice ia is.length ic),(7,.slice a5 r4.length c5),(8,.int .i64 b2),(9,.slice a4 c2.length kk4)] _ S5.out.s);have P5:=hid (Uw ne [(0,.int .i64 y0),(1,.int .i64 y1),(2,.int .i64 y2),(3,.int .i64 b1),(4,.slice a3 c1.length kk3),(5,.string (bytesOf dat)),(6,.slice ia is.length ic),(7,.slice a5 r4.length c5),(8,.int .i64 b2),(9,.slice a4 c2.length kk4)] _ S5.out.r);have P6:=hid (Lb nr [(0,.int .i64 y0),(1,.int .i64 y1),(2,.int .i64 y2),(3,.int .i64 b1),(4,.slice a3 c1.length kk3),(5,.string (bytesOf dat)),(6,.slice ia is.length ic),(7,.slice a5 r4.length c5),(8,.int .i64 b2),(9,.slice a4 c2.length kk4)] _ S5.out.g);go_wp2;have EM:(r4.map Bb).length=r4.length:=(by simp);have n1:=As.newL P1 (by omega);have n2:=As.newL P2 (by omega);have n3:=Bo.int (a:=a5) (c:=c5) (l:=r4.map Bb) (by rw[EM];have:=P3.out;rw[EM]at this;unfold Bo;rw[EM];exact this) (by rw[EM];omega);rw[EM]at n3;have n4:=Bq.str (a:=ia) (c:=ic) (l:=is) P4 (by have:=HB.out.1;omega) (fun y hy=>by have:=HB.out.2 y hy;omega);have rm:=FN P4.out;exact bodyPost_ret (Rp _ _ W _ _ _ _ _ _ _ _ _ _ CS rfl) rfl (Or.inl ⟨_,_,⟨y0,y1,y2,b1,⟨a3,c1.length,kk3,Az c1,Ay c1⟩,bytesOf dat,⟨ia,is.length,ic,fun i=>bytesOf (is.getD i [])⟩,⟨a5,r4.length,c5,fun i=>(r4.map Bb).getD i 0⟩,b2,⟨a4,c2.length,kk4,Az c2,Ay c2⟩⟩,eo,rfl,⟨rfl,rfl,rfl,rfl,⟨rfl,rfl,rfl⟩,rfl,⟨rfl,rfl⟩,⟨EM.symm,rfl⟩,rfl,⟨rfl,rfl,rfl⟩⟩,⟨n1,n4,n3,n2⟩,rm,ND,by show dat.length<=_;omega,P5,P6⟩)
  |some Q5=>
   rw[ht]at S4;have q5:=Fy ht;have p1:=Cs 10 Q5;have p2:=Dc 10 Q5;have S5:Hid (Se u pv W v1 rb ob y0 y1 y2 b1 b2 (.slice a3 c1.length kk3) (.slice a4 c2.length kk4) (.slice a5 r4.length c5) (.slice ia is.length ic) c1 c2 (r4.map Bb) dat is Q5):=S4;have HT:=hid ht;have lm:is.length<=2000000:=(by have:=HB.out.1;omega);have hq4:Q4.length<=1000000:=(by have:=HB.out.1;omega);clear S4 ht;go_wp2_with fail
   refine Av 7 (fun W=>Ai W ob (.cells #[.int .i64 y0,.int .i64 y1,.int .i64 y2,.int .i64 b1,.slice a3 c1.length kk3,.string (bytesOf dat),.slice ia is.length ic,.slice a5 r4.length c5,.int .i64 b2,.slice a4 c2.length kk4] 51)) (by kernel_rfl) ?_;have D5:=hid (S5.out.below ((Below.refl _ v1).drew));clear S5;generalize v1.drew=v2 at *;refine tr 0 34 (.pointer (some ⟨ob,6,none⟩)) D5.out.b ?_;refine tr 1 35 (.slice ia is.length ic) D5.out.b ?_ (hy:=fun W h=>by obtain⟨z0,z1,z2,z3,z4,z5,z6,z7,z8,z9⟩:=h.jE;go_simp);refine tr 2 36 (.pointer rb) D5.out.b ?_;refine Ab (i:=3) (by kernel_rfl) rfl ?_;intro K hK;refine Iv (by rfl) 76 _ _ (by rfl) EN _ (by rfl) (some 37) (by rfl) (fun v w'=>(Ak 10 Q5).2.2=true/\v= .string (bytesOf (Ak 10 Q5).1)/\Iy w' rb (Ak 10 Q5).2.1/\v2.grownBy w' (some rb)) (fun c w'=>(Ak 10 Q5).2.2=false/\Be u pv= .panicked c/\v2.grownBy w' (some rb)) ((UQ u pv rb Q5 v2 (by omega) D5.out.r D5.out.e).mono fun e w' h=>?_) ?_ ?_
   ·rcases h with⟨h1,h2,h3,h4⟩|⟨h1,h2,h3⟩
    ·exact Or.inl ⟨_,h2,h1,rfl,h3,h4⟩
    ·exact Or.inr ⟨_,h2,h1,rfl,h3⟩
   rotate_left
   ·rintro c w' ⟨h1,h2,h3⟩;have eo:Dg R=none:=(by rw[EQ.out,HI.out,bj HT.out h1]);unfold Be at h2;cases h2;exact⟨rfl,Or.inr ⟨eo,rfl,AI D5.out.g h3⟩⟩
   rintro v v3 ⟨hf,rfl,R8,G8⟩;have S6:=hid (D5.out.read G8 R8 lr h0);have HI2:=hid (HI.out.trans (aS HT hf));refine hK _ _ (fun _=>S6.out.b) ?_;clear hK K D5 R8 G8 hf HI HT;simp only[ap,List.set];generalize (Ak 10 Q5).1=p at *;generalize (Ak 10 Q5).2.1=Q6 at *;refine Ab (i:=4) (by kernel_rfl) rfl ?_;intro K hK;have n6:No (.cells #[.string (bytesOf p)] 9):=⟨⟩;have S7:=hid (S6.out.below ((Below.refl _ v3).alloc nr n6));have C7:=hid (P8 (w:=v3) (bytesOf p));go_simp;refine hK _ _ (fun _=>S7.out.b) ?_;clear hK K S6;try simp only[ap,List.set]
   generalize v3.alloc n6=v4 at *;refine Ab (i:=5) (by kernel_rfl) rfl ?_;intro K hK;refine Ji (by rfl) _ _ (by rfl) W (.slice ia is.length ic) is (by rfl) S7.out.s _ 1 p (by rfl) C7 lm S7.out.g.size (some 39) (by rfl) ?_;intro g9 c9 v5 O9 G9;have AD:=S7.out.item G9 O9 lr W0;have B9:=hid AD.1;have S8:=hid AD.2;refine hK _ _ (fun _=>B9) ?_;clear hK K S7 AD O9 G9 C7;simp only[ap,List.set];refine Ab (i:=6) (by kernel_rfl) rfl ?_;intro K hK;go_simp;refine hK _ _ (fun _=>B9) ?_;clear hK K;try simp only[ap,List.set]
   refine Ab (i:=7) (by kernel_rfl) rfl ?_;intro K hK;have bb:=B9.out;have wf:=bb.jC;obtain⟨z0,z1,z2,z3,z4,z5,z6,z7,z8,z9⟩:=bb.jE;go_simp;refine hK _ _ (fun h=>absurd h (by decide)) ?_;clear hK K;refine Ao (by kernel_rfl) ?_ _;have rn1:Hid (YJ (v5.setCell ⟨ob,6,none⟩ (.slice g9 (is.length+1) c9)) rb=Q6.length):=hid (MM S8.out.r);clear z0 z1 z2 z3 z4 z5 z6 z7 z8 z9 bb wf B9;go_wp2;refine⟨⟨is++[p],Q6,some ⟨g9,0,none⟩,c9,by rw[List.length_append];exact S8.out,HI2,hid ⟨by have:=HB.out.1;simp;omega,fun y hy=>?_⟩⟩,by rw[rn1.out,rn0.out];omega⟩;rcases List.mem_append.1 hy with hy|hy
   ·exact HB.out.2 y hy
   ·rw[List.mem_singleton.1 hy];have:=HB.out.1;omega
theorem Nt{b:Int}{c d:AH}(h:c.same d):lb b d=lb b c:=by
 unfold lb;rw[h.1,h.2.1,h.2.2]
theorem RI{c d:AU}(h:c.same d):AF d=AF c:=by
 unfold AF;rw[h.1,h.2]
theorem Xe{t u:Af}(h:t.same u):II u=II t:=by
 unfold II;rw[h.1,h.2.1,Nt h.2.2.1,h.2.2.2.1,Nt h.2.2.2.2.1,RI h.2.2.2.2.2.1,h.2.2.2.2.2.2]
theorem Xd{t u:Ae}(h:t.same u)(ks:List Int):objT u ks=objT t ks:=by
 unfold objT EV;rw[h.1,h.2.1,h.2.2.1,h.2.2.2.1,Nt h.2.2.2.2.1,h.2.2.2.2.2.1,h.2.2.2.2.2.2.1.1,h.2.2.2.2.2.2.1.2,RI h.2.2.2.2.2.2.2.1,h.2.2.2.2.2.2.2.2.1,Nt h.2.2.2.2.2.2.2.2.2]
theorem Vp{k l:AJ}(h:k.same l):By l=By k:=by
 unfold By;rw[Du h];have e1:CI l.T l.tn=CI k.T k.tn:=by
  unfold CI;rw[h.1];exact congrArg List.flatten (List.map_congr_left fun j hj=>Xe (h.2.1 j (List.mem_range.1 hj)))
 have e2:Dj l.O l.on=Dj k.O k.on:=by
  unfold Dj;rw[h.2.2.1];exact congrArg List.flatten (List.map_congr_left fun j hj=>Xd (h.2.2.2 j (List.mem_range.1 hj)) [])
 rw[e1,e2]
end Go.Proofs.YtblapfnglojgjaaGreatDoor
