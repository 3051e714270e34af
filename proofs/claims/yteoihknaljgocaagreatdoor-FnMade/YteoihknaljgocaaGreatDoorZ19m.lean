import Derived.LaidEql
import Derived.Stop.Asserts
import Derived.RowKitTokens
import Derived.RangeFuncNested
import Derived.RangeFuncBound
import Derived.RangeFuncCalls
import Derived.RangeFuncLeaves
import Derived.Test.YteoihknaljgocaaGreatDoorZ18m
set_option maxRecDepth 100000
set_option maxHeartbeats 16000000
namespace Go.Proofs.YteoihknaljgocaaGreatDoor
open Go Go.RowKit Go.Deep Go.Maps Go.BigFrame Go.Shelf Go.Proofs.Tryz
def Kw(lo:List Ab):Prop:=∀x∈lo,x.jA.tight
theorem Kw.add{lo:List Ab}{u:Ab}(h:Kw lo)(hu:u.jA.tight):Kw (lo++[u]):=fun x hx=>by
 rcases List.mem_append.1 hx with hx|hx
 ·exact h x hx
 ·rw[List.mem_singleton.1 hx];exact hu
theorem If(k:Aw)(w:World)(hk:k.at w)(hs:k.small):
 Calls prog 21 #[k.val] w fun e w'=>∃(lt:List Ae) (lo:List Ab) (ta oa:Option Addr) (ca co:Nat),e= .returned (.agg #[.slice ta lt.length ca,.slice oa lo.length co])/\BJ w' w (.slice ta lt.length ca) (.slice oa lo.length co) lt lo/\Apart lt lo/\Kw lo/\k.same (Bo ta ca oa co lt lo)/\Below w w w':=by
 have HT:=hid hk.2.2.1;have HO:=hid hk.2.2.2;have SMALL:=hid hs;obtain⟨ta0,tn,tk,T,oa0,onn,okk,O⟩:=k;simp only[Aw.small]at HT HO SMALL;have n4:No (.cells #[.slice none 0 0,.slice none 0 0] 27):=⟨⟩;have n5:No (.cells #[.slice ta0 tn tk,.slice oa0 onn okk] 27):=⟨⟩;have n8:Nw (((w.alloc n5).alloc n4).alloc n4):=⟨⟩;have b0:Below w w n8:=((Bf w _).alloc (by simp) _).alloc (by simp;omega) _;have S0:Hid (J7 w (Aw.mk ta0 tn tk T oa0 onn okk O) n8 (.slice none 0 0) (.slice none 0 0) [] []):=hid ⟨⟨Dq.nil _ _,AO.nil _ _,fun x hx=>absurd hx List.not_mem_nil,fun x hx=>absurd hx List.not_mem_nil,fun x hx=>absurd hx List.not_mem_nil,fun x hx=>absurd hx List.not_mem_nil⟩,fun i hi=>absurd hi (Nat.not_lt_zero i),fun i hi=>absurd hi (Nat.not_lt_zero i),((Ag.new w n5).alloc _).alloc _,(by have:=(Ag.new (w.alloc n5) n4).alloc n4;simpa using this),(by have:=Ag.new ((w.alloc n5).alloc n4) n4;simpa using this),b0⟩;clear hk hs b0;unfold Aw.val;go_enter func21,ntmps21
 go_wp2;go_loopw [11] (fun i wr=>∃(lt:List Ae) (ta:Option Addr) (ca:Nat),lt.length<=tn/\i= .int .i64 lt.length/\J7 w (Aw.mk ta0 tn tk T oa0 onn okk O) wr (.slice ta lt.length ca) (.slice none 0 0) lt []/\Apart lt []) (fun i _=>tn-(intOf i).toNat)
 case atStart=>exact⟨[],none,0,Nat.zero_le _,rfl,S0,Apart.nil⟩
 case round=>
  clear S0;obtain⟨lt,ta,ca,hl,rfl,st,ap⟩:=hrel;have S1:=hid st;have AP1:=hid ap;clear st ap;by_cases hlt:lt.length<tn
  ·have i1:(lt.length:Int)<(tn:Int):=(by omega);have i0:(0:Int)<=(lt.length:Int):=(by omega);obtain⟨b,off,ea,hbl,hc⟩:=HT.out (by omega);subst ea;have n3:Na #[.int .i64 (T lt.length).id,.int .i64 (T lt.length).b1,.slice (T lt.length).c1.a (T lt.length).c1.n (T lt.length).c1.k,.int .i64 (T lt.length).b2,.slice (T lt.length).c2.a (T lt.length).c2.n (T lt.length).c2.k,.slice (T lt.length).own.a (T lt.length).own.n (T lt.length).own.k,.int .i64 (T lt.length).made]:=⟨⟩;have n6:Nw (wr.alloc (.cells n3 39)):=⟨⟩;have bd:Below wr wr (n6:World).drew:=(Bf wr (.cells n3 39)).drew;have SD:=hid (S1.out.below bd);have CC:Fi wr b (off+lt.length*7) (T lt.length):=(hc lt.length hlt).1.below hbl S1.out.be;have q0:wr.cell? ⟨b,off+lt.length*7,none⟩=some (.int .i64 (T lt.length).id):=CC.c0;have q1:wr.cell? ⟨b,off+lt.length*7+1,none⟩=some (.int .i64 (T lt.length).b1):=CC.c1;have q2:wr.cell? ⟨b,off+lt.length*7+2,none⟩=some (.slice (T lt.length).c1.a (T lt.length).c1.n (T lt.length).c1.k):=CC.c2;have q3:wr.cell? ⟨b,off+lt.length*7+3,none⟩=some (.int .i64 (T lt.length).b2):=CC.c3;have q4:wr.cell? ⟨b,off+lt.length*7+4,none⟩=some (.slice (T lt.length).c2.a (T lt.length).c2.n (T lt.length).c2.k):=CC.c4;have q5:wr.cell? ⟨b,off+lt.length*7+5,none⟩=some (.slice (T lt.length).own.a (T lt.length).own.n (T lt.length).own.k):=CC.c5;have q6:wr.cell? ⟨b,off+lt.length*7+6,none⟩=some (.int .i64 (T lt.length).made):=CC.c6;have hbw:b<wr.heap.size:=Nat.lt_of_lt_of_le hbl S1.out.be.size;obtain⟨a0,a1⟩:=S1.out.a.two;obtain⟨x0,x1⟩:=SD.out.a.two;obtain⟨y0,y1⟩:=SD.out.o.two;simp only at a0 a1 x0 x1;have CP:Hid (Calls prog 26 #[.agg n3] (n6:World).drew fun e w'=>∃v,e= .returned v/\(∃u:Ae,v= .agg u/\(T lt.length).same u/\u.new (n6:World).drew.heap.size w'/\(u.own.n<=u.own.k/\u.own.k<=maxLen)/\u.cb.Nodup/\Below (n6:World).drew.heap.size (n6:World).drew w')):=hid ((LP (T lt.length) (n6:World).drew ((hc lt.length hlt).2.below SD.out.be) (SMALL.out.1.2 lt.length hlt)).mono fun _ _ ⟨u,e1,h1,h2,h3,h5,h4⟩=>⟨_,e1,u,rfl,h1,h2,h3,h5,h4⟩);have EG:Hid (∀args w,(callFunc 26 args).run prog w= .ok (.enter 26 args) w):=hid (enters_of func26 (by kernel_rfl) rfl);have BX:=hid (show Ag (n6:World).drew wr (.cells n3 39) from Ag.new wr (.cells n3 39));obtain⟨p0,p1,p2,p3,p4,p5,p6⟩:=BX.out.seven;have lm:lt.length<=1048576:=(by have:=SMALL.out.1.1;omega);clear hc CC bd;have sz0:=S1.out.be.size;go_wp2_with fail
   go_region_law(first
    |(refine Dk (by rfl) 26 _ _ (by rfl) EG _ (by rfl) _ CP ?_;rintro v w5 ⟨u,rfl,su,nu,cu,du,b5⟩;have CU:=hid cu;have AU:=hid (AP1.out.addT SD.out.st nu nr du);have S5:=hid (SD.out.below b5);have S5a:=hid ((SD.out.below b5).below (Bf w5 (.cells u 39)));have N5:=hid ((nu.low SD.out.be.size).keeps (Da.of_below (Bf w5 (.cells u 39))).l);have SU:=hid su;have ONE:Hid (Bp (w5.alloc (.cells u 39)) (some ⟨w5,0,none⟩) 1 (Ce [u])):=hid (Dq.one w5 u);have s5:w.heap.size<=(w5.alloc (.cells u 39)).heap.size:=S5a.out.be.size;obtain⟨m0,m1⟩:=S5.out.o.two;obtain⟨n0,n1⟩:=S5a.out.o.two;clear su nu b5 cu du)
    |(refine IN (by rfl) _ _ (by rfl) w (.slice ta lt.length ca) lt (by rfl) S5a.out.st.t _ _ u (by rfl) ONE lm s5 ?_;intro a7 c7 w7 o7 g7;have AD:=S5a.out.addT o7 g7 N5 SU CU.out;have S7:=hid AD.2;obtain⟨z0,z1⟩:=AD.1.two;have zf:=AD.1.jC;clear AD o7 g7))
   all_goals(
    clear p0 p1 p2 p3 p4 p5 p6 m0 m1 n0 n1 x0 x1 y0 y1 q0 q1 q2 q3 q4 q5 q6 a0 a1;go_wp2;go_roundw;case rel=>exact⟨lt++[u],a7,c7,by simp;omega,by first|go_num|(congr 1;simp),by rw[show(lt++[u]).length=lt.length+1 from by simp];exact S7.out,AU⟩
    case measure=>simp[intOf];omega)
  ·have i1:¬(lt.length:Int)<(tn:Int):=(by omega);have ET:Hid (lt.length=tn):=hid (by omega);obtain⟨a0,a1⟩:=S1.out.a.two;simp only at a0 a1;have ST:=S1;have APT:=AP1;clear S1 AP1;go_wp2;clear a0 a1 i1 hlt hl;go_loopw [26] (fun i wr=>∃(lo:List Ab) (oa:Option Addr) (co:Nat),lo.length<=onn/\i= .int .i64 lo.length/\J7 w (Aw.mk ta0 tn tk T oa0 onn okk O) wr (.slice ta lt.length ca) (.slice oa lo.length co) lt lo/\Apart lt lo/\Kw lo) (fun i _=>onn-(intOf i).toNat)
   case atStart=>exact⟨[],none,0,Nat.zero_le _,rfl,ST,APT,fun x hx=>by cases hx⟩
   case round=>
    clear ST APT;obtain⟨lo,oa,co,hl,rfl,st,ap,ti⟩:=hrel;have TI1:=hid ti;clear ti;have S1:=hid st;have AP1:=hid ap;clear st ap;by_cases hlt:lo.length<onn
    ·have i1:(lo.length:Int)<(onn:Int):=(by omega);have i0:(0:Int)<=(lo.length:Int):=(by omega);obtain⟨b,off,ea,hbl,hc⟩:=HO.out (by omega);subst ea;have n2:Na #[.int .i64 (O lo.length).id,.int .i64 (O lo.length).kind,.int .i64 (O lo.length).up,.int .i64 (O lo.length).b1,.slice (O lo.length).c1.a (O lo.length).c1.n (O lo.length).c1.k,.string (O lo.length).data,.slice (O lo.length).jA.a (O lo.length).jA.n (O lo.length).jA.k,.slice (O lo.length).own.a (O lo.length).own.n (O lo.length).own.k,.int .i64 (O lo.length).b2,.slice (O lo.length).c2.a (O lo.length).c2.n (O lo.length).c2.k]:=⟨⟩;have n7:Nw (wr.alloc (.cells n2 44)):=⟨⟩;have bd:Below wr wr (n7:World).drew:=(Bf wr (.cells n2 44)).drew;have SD:=hid (S1.out.below bd);have CC:C9 wr b (off+lo.length*10) (O lo.length):=(hc lo.length hlt).1.below hbl S1.out.be;have q0:wr.cell? ⟨b,off+lo.length*10,none⟩=some (.int .i64 (O lo.length).id):=CC.c0;have q1:wr.cell? ⟨b,off+lo.length*10+1,none⟩=some (.int .i64 (O lo.length).kind):=CC.c1;have q2:wr.cell? ⟨b,off+lo.length*10+2,none⟩=some (.int .i64 (O lo.length).up):=CC.c2;have q3:wr.cell? ⟨b,off+lo.length*10+3,none⟩=some (.int .i64 (O lo.length).b1):=CC.c3;have q4:wr.cell? ⟨b,off+lo.length*10+4,none⟩=some (.slice (O lo.length).c1.a (O lo.length).c1.n (O lo.length).c1.k):=CC.c4;have q5:wr.cell? ⟨b,off+lo.length*10+5,none⟩=some (.string (O lo.length).data):=CC.c5;have q6:wr.cell? ⟨b,off+lo.length*10+6,none⟩=some (.slice (O lo.length).jA.a (O lo.length).jA.n (O lo.length).jA.k):=CC.c6;have q7:wr.cell? ⟨b,off+lo.length*10+7,none⟩=some (.slice (O lo.length).own.a (O lo.length).own.n (O lo.length).own.k):=CC.c7;have q8:wr.cell? ⟨b,off+lo.length*10+8,none⟩=some (.int .i64 (O lo.length).b2):=CC.c8;have q9:wr.cell? ⟨b,off+lo.length*10+9,none⟩=some (.slice (O lo.length).c2.a (O lo.length).c2.n (O lo.length).c2.k):=CC.c9;have hbw:b<wr.heap.size:=Nat.lt_of_lt_of_le hbl S1.out.be.size;obtain⟨a0,a1⟩:=S1.out.a.two;obtain⟨x0,x1⟩:=SD.out.a.two;obtain⟨y0,y1⟩:=SD.out.o.two;simp only at a0 a1 x0 x1;have CP:Hid (Calls prog 28 #[.agg n2] (n7:World).drew fun e w'=>∃v,e= .returned v/\(∃u:Ab,v= .agg u/\(O lo.length).same u/\u.new (n7:World).drew.heap.size w'/\(u.jA.n<=u.jA.k/\u.jA.k<=maxLen)/\(u.cb.Nodup/\u.jA.tight)/\Below (n7:World).drew.heap.size (n7:World).drew w')):=hid ((Lm (O lo.length) (n7:World).drew ((hc lo.length hlt).2.below SD.out.be) (SMALL.out.2.2 lo.length hlt)).mono fun _ _ ⟨u,e1,h1,h2,h3,_,h5,h4⟩=>⟨_,e1,u,rfl,h1,h2,h3,h5,h4⟩);have EG:Hid (∀args w,(callFunc 28 args).run prog w= .ok (.enter 28 args) w):=hid (enters_of func28 (by kernel_rfl) rfl);have BX:=hid (show Ag (n7:World).drew wr (.cells n2 44) from Ag.new wr (.cells n2 44));obtain⟨p0,p1,p2,p3,p4,p5,p6,p7,p8,p9⟩:=BX.out.jE;have lm:lo.length<=1048576:=(by have:=SMALL.out.2.1;omega);clear hc CC bd;have sz0:=S1.out.be.size;go_wp2_with fail
     go_region_law(first
      |(refine Dk (by rfl) 28 _ _ (by rfl) EG _ (by rfl) _ CP ?_;rintro v w5 ⟨u,rfl,su,nu,cu,du,b5⟩;have CU:=hid cu;have AU:=hid (AP1.out.addO SD.out.st nu nr du.1);have TU:=hid (TI1.out.add du.2);have S5:=hid (SD.out.below b5);have S5a:=hid ((SD.out.below b5).below (Bf w5 (.cells u 44)));have N5:=hid ((nu.low SD.out.be.size).keeps (Da.of_below (Bf w5 (.cells u 44))).l);have SU:=hid su;have ONE:Hid (Bp (w5.alloc (.cells u 44)) (some ⟨w5,0,none⟩) 1 (Ax [u])):=hid (AO.one w5 u);have s5:w.heap.size<=(w5.alloc (.cells u 44)).heap.size:=S5a.out.be.size;obtain⟨m0,m1⟩:=S5.out.o.two;obtain⟨n0,n1⟩:=S5a.out.o.two;clear su nu b5 cu du)
      |(refine Gj (by rfl) _ _ (by rfl) w (.slice oa lo.length co) lo (by rfl) S5a.out.st.o _ _ u (by rfl) ONE lm s5 ?_;intro a7 c7 w7 o7 g7;have AD:=S5a.out.addO o7 g7 N5 SU CU.out;have S7:=hid AD.2;obtain⟨z0,z1⟩:=AD.1.two;have zf:=AD.1.jC;clear AD o7 g7))
     all_goals(
      clear p0 p1 p2 p3 p4 p5 p6 p7 p8 p9 m0 m1 n0 n1 x0 x1 y0 y1 q0 q1 q2 q3 q4 q5 q6 q7 q8 q9 a0 a1;go_wp2;go_roundw;case rel=>exact⟨lo++[u],a7,c7,by simp;omega,by first|go_num|(congr 1;simp),by rw[show(lo++[u]).length=lo.length+1 from by simp];exact S7.out,AU,TU⟩
      case measure=>simp[intOf];omega)
    ·have el:lo.length=onn:=(by omega);have i1:¬(lo.length:Int)<(onn:Int):=(by omega);have EL:=hid el;obtain⟨a0,a1⟩:=S1.out.a.two;simp only at a0 a1;obtain⟨y0,y1⟩:=S1.out.o.two;obtain⟨r0,r1⟩:=S1.out.r.two;have rf:=S1.out.r.jC;clear el;go_wp2;refine bodyPost_ret (Hq _ _ (w.heap.size+1) 2 _ _ Tryz.results21 ((S1.out.r.jB (i:=0) _).jB (i:=1) _) rfl) rfl ⟨lt,lo,ta,oa,ca,co,rfl,(S1.out.st.set S1.out.r (.inl rfl) _).set (S1.out.r.jB (i:=0) _) (.inl rfl) _,AP1,TI1,⟨ET,fun j hj=>S1.out.st1 j (by rw[ET.out];exact hj),EL,fun j hj=>S1.out.so1 j (by rw[EL.out];exact hj)⟩,?_⟩;exact(S1.out.be.setCell (by dsimp only;omega) _).setCell (by dsimp only;omega) _
def Ie(s:Al)(g nt ca q no co t:Nat)(m:Value):Array Value:=#[s.th,s.kind,s.id,s.to,s.cat,.string s.data,s.b1,s.c1,s.b2,s.c2,.slice g nt ca,.slice q no co,.pointer (some ⟨g,t*7,none⟩),m]
structure Ex(wr:World)(B P:Nat)(s:Al)(g ca q co:Nat)(lt:List Ae)(lo:List Ab)(t:Nat)(m:Value):Prop where
 st:BJ wr B (.slice g lt.length ca) (.slice q lo.length co) lt lo
 ap:Apart lt lo
 wk:Ag wr P (.cells (Ie s g lt.length ca q lo.length co t m) 100)
 lp:B<=P
theorem Ag.jZ{W:World}{P ty:Nat}{s:Al}{g nt ca q no co t:Nat}{m:Value}(h:Ag W P (.cells (Ie s g nt ca q no co t m) ty)):
 (W.cell? ⟨P,0,none⟩=some (.int .i64 s.th)/\W.cell? ⟨P,1,none⟩=some (.int .i64 s.kind)/\W.cell? ⟨P,2,none⟩=some (.int .i64 s.id)/\W.cell? ⟨P,3,none⟩=some (.int .i64 s.to)/\W.cell? ⟨P,4,none⟩=some (.int .i64 s.cat)/\W.cell? ⟨P,5,none⟩=some (.string s.data)/\W.cell? ⟨P,6,none⟩=some (.int .i64 s.b1)/\W.cell? ⟨P,7,none⟩=some (.slice s.c1.a s.c1.n s.c1.k)/\W.cell? ⟨P,8,none⟩=some (.int .i64 s.b2)/\W.cell? ⟨P,9,none⟩=some (.slice s.c2.a s.c2.n s.c2.k))/\
 W.cell? ⟨P,10,none⟩=some (.slice g nt ca)/\W.cell? ⟨P,11,none⟩=some (.slice q no co)/\W.cell? ⟨P,12,none⟩=some (.pointer (some ⟨g,t*7,none⟩))/\W.cell? ⟨P,13,none⟩=some m:=by
 unfold Ag Ie at h;simp[World.cell?,h]
section
variable {wr w':World}{B P:Nat}{s:Al}{g ca q co:Nat}{lt:List Ae}{lo:List Ab}{t:Nat}{m:Value}
theorem Ex.below(h:Ex wr B P s g ca q co lt lo t m)(hb:Below wr wr w'):Ex w' B P s g ca q co lt lo t m:=
 ⟨h.st.below hb,h.ap,h.wk.below hb,h.lp⟩
end
theorem Nj:∀{L:List (List Nat)}{t:Nat}{l:List Nat} (l':List Nat),L[t]? =some l->∃R:List Nat,L.flatten.Perm (l++R)/\(L.set t l').flatten.Perm (l'++R)
 |[],t,l,_,h=>by simp at h
 |x::L,0,l,l',h=>by
  simp only[List.getElem?_cons_zero,Option.some.injEq]at h;subst h;exact⟨L.flatten,by simp,by simp⟩
 |x::L,t+1,l,l',h=>by
  simp only[List.getElem?_cons_succ]at h;obtain⟨R,h1,h2⟩:=Nj l' h;refine⟨x++R,?_,?_⟩
  ·simp only[List.flatten_cons];refine(h1.append_left x).trans ?_;rw[<-List.append_assoc,<-List.append_assoc];exact List.perm_append_comm.append_right R
  ·simp only[List.set_cons_succ,List.flatten_cons];refine(h2.append_left x).trans ?_;rw[<-List.append_assoc,<-List.append_assoc];exact List.perm_append_comm.append_right R
theorem Uy{l l' R:List Nat}{M:Nat}(h:(l++R).Nodup)(h1:l'.Nodup)(h2:∀x∈l',x∈l∨M<=x)(h3:∀x∈l++R,x<M):(l'++R).Nodup:=by
 rw[List.nodup_append]at h ⊢;refine⟨h1,h.2.1,fun x hx y hy e=>?_⟩;subst e;rcases h2 x hx with a|a
 ·exact h.2.2 x a x hy rfl
 ·have:=h3 x (List.mem_append.2 (.inr hy));omega
theorem Ik{L:List (List Nat)}{S:List Nat}{t M:Nat}{l:List Nat}(l':List Nat)(hl:L[t]? =some l)(h:(L.flatten++S).Nodup)(h1:l'.Nodup)(h2:∀x∈l',x∈l∨M<=x)(h3:∀x∈L.flatten++S,x<M):((L.set t l').flatten++S).Nodup:=by
 obtain⟨R,p1,p2⟩:=Nj l' hl;have q1:(L.flatten++S).Perm (l++(R++S)):=by rw[<-List.append_assoc];exact p1.append_right S
 have q2:((L.set t l').flatten++S).Perm (l'++(R++S)):=by rw[<-List.append_assoc];exact p2.append_right S
 exact q2.nodup_iff.2 (Uy (q1.nodup_iff.1 h) h1 h2 (fun x hx=>h3 x (q1.mem_iff.2 hx)))
theorem Dj{L:List (List Nat)}{S:List Nat}{t:Nat}{l:List Nat}(hl:L[t]? =some l)(h:(L.flatten++S).Nodup):l.Nodup:=by
 obtain⟨R,p1,_⟩:=Nj [] hl;exact(List.nodup_append.1 (p1.nodup_iff.1 (List.nodup_append.1 h).1)).1
theorem Apart.setT{w:World}{B:Nat}{vt vo:Value}{lt:List Ae}{lo:List Ab}(h:Apart lt lo)(hk:BJ w B vt vo lt lo){t:Nat}(ht:t<lt.length){x:Ae}(hn:x.cb.Nodup)(hc:∀b∈x.cb,b∈lt[t].cb∨w.heap.size<=b)(hd:x.own.bs.Nodup)(hi:∀b∈x.own.bs,b∈lt[t].own.bs∨w.heap.size<=b):Apart (lt.set t x) lo:=by
 obtain⟨k1,k2,_⟩:=hk.low3;refine⟨?_,?_,h.s⟩
 ·rw[List.map_set];exact Ik x.cb (l:=lt[t].cb) (by simp[ht]) h.c hn hc k1
 ·rw[List.map_set];exact Ik x.own.bs (l:=lt[t].own.bs) (by simp[ht]) h.i hd hi k2
theorem Apart.setO{w:World}{B:Nat}{vt vo:Value}{lt:List Ae}{lo:List Ab}(h:Apart lt lo)(hk:BJ w B vt vo lt lo){t:Nat}(ht:t<lo.length){x:Ab}(hn:x.cb.Nodup)(hc:∀b∈x.cb,b∈lo[t].cb∨w.heap.size<=b)(hd:x.own.bs.Nodup)(hi:∀b∈x.own.bs,b∈lo[t].own.bs∨w.heap.size<=b)(he:x.jA.bs.Nodup)(hs:∀b∈x.jA.bs,b∈lo[t].jA.bs∨w.heap.size<=b):Apart lt (lo.set t x):=by
 obtain⟨k1,k2,k3⟩:=hk.low3;refine⟨?_,?_,?_⟩
 ·rw[List.map_set];refine List.perm_append_comm.nodup_iff.2 (Ik x.cb (l:=lo[t].cb) (by simp[ht]) (List.perm_append_comm.nodup_iff.2 h.c) hn hc (fun b hb=>k1 b (List.perm_append_comm.mem_iff.2 hb)))
 ·rw[List.map_set];refine List.perm_append_comm.nodup_iff.2 (Ik x.own.bs (l:=lo[t].own.bs) (by simp[ht]) (List.perm_append_comm.nodup_iff.2 h.i) hd hi (fun b hb=>k2 b (List.perm_append_comm.mem_iff.2 hb)))
 ·rw[List.map_set];have:=Ik x.jA.bs (S:=[]) (L:=lo.map fun x=>x.jA.bs) (t:=t) (l:=lo[t].jA.bs) (by simp[ht]) (by rw[List.append_nil];exact h.s) he hs (by rw[List.append_nil];exact k3);rw[List.append_nil]at this;exact this
section
variable {wr:World}{B P g ca q co t:Nat}{s:Al}{lt:List Ae}{lo:List Ab}{m:Value}
theorem Ex.setP(h:Ex wr B P s g ca q co lt lo t m):P≠g/\P<wr.heap.size:=by
 refine⟨fun e=>?_,h.wk.lt⟩;have ht:=h.st.t;rcases ht.2 with⟨hv,_⟩|⟨g',cap,cur,hv,_,hgg,_⟩
 ·cases hv
 ·cases hv;have hw:=h.wk;unfold Ag at hw;rw[e,hgg]at hw;simp at hw
theorem Ex.setMade(h:Ex wr B P s g ca q co lt lo t m){n:Int}(ht:t<lt.length){X:Ae}(hX:X=lt[t]):
 Ex (wr.setCell ⟨g,t*7+6,none⟩ (.int .i64 n)) B P s g ca q co (lt.set t ⟨X.id,X.b1,X.c1,X.b2,X.c2,X.own,n⟩) lo t m/\B<=g/\∃cur,Ag wr g (.cells cur 39):=by
 obtain⟨k1,⟨cur,hc⟩,hg⟩:=h.st.setMade (m:=n) ht hX;have el:(lt.set t (⟨X.id,X.b1,X.c1,X.b2,X.c2,X.own,n⟩:Ae)).length=lt.length:=by simp
 have hn:X.cb.Nodup:=Dj (L:=lt.map Ae.cb) (t:=t) (by simp[ht,hX]) h.ap.c;have hd:X.own.bs.Nodup:=Dj (L:=lt.map fun x=>x.own.bs) (t:=t) (by simp[ht,hX]) h.ap.i;refine⟨⟨by rw[el];exact k1,h.ap.setT h.st ht (x:=⟨X.id,X.b1,X.c1,X.b2,X.c2,X.own,n⟩) hn (fun b hb=> .inl (by rw[<-hX];exact hb)) hd (fun b hb=> .inl (by rw[<-hX];exact hb)),by rw[el];exact h.wk.other (Ne.symm h.setP.1) _,h.lp⟩,hg,cur,hc⟩
theorem Uv(w:World)(B P:Nat)(s:Al)(g ca q co:Nat)(lt:List Ae)(lo:List Ab)(t:Nat)(m:Value)(h:Ex w B P s g ca q co lt lo t m)(ht:t<lt.length)(X:Ae)(hX:X=lt[t])(hi:1<=X.id/\X.id<=1000000)(hm:0<=X.made/\X.made<=1000000):
 Calls prog 120 #[.pointer P] w fun e w'=>e= .returned (.int .i64 (Aq X))/\Ex w' B P s g ca q co (lt.set t ⟨X.id,X.b1,X.c1,X.b2,X.c2,X.own,X.made+1⟩) lo t m/\Below B w w':=by
 obtain⟨CW,gl⟩:=h.st.jJ ht;rw[<-hX]at CW;have q0:w.cell? ⟨g,t*7,none⟩=some (.int .i64 X.id):=CW.c0;have q6:w.cell? ⟨g,t*7+6,none⟩=some (.int .i64 X.made):=CW.c6;obtain⟨_,_,_,c12,_⟩:=h.wk.jZ;obtain⟨S1,hg,cur,hcu⟩:=h.setMade (n:=X.made+1) ht hX;have ne:=h.setP;have gf:=hcu.jC;obtain⟨_,_,_,d12,_⟩:=S1.wk.jZ;have el:(lt.set t (⟨X.id,X.b1,X.c1,X.b2,X.c2,X.own,X.made+1⟩:Ae)).length=lt.length:=by simp
 obtain⟨CV,_⟩:=S1.st.jJ (t:=t) (by rw[el];exact ht);have eg:(lt.set t (⟨X.id,X.b1,X.c1,X.b2,X.c2,X.own,X.made+1⟩:Ae))[t]'(by rw[el];exact ht)=⟨X.id,X.b1,X.c1,X.b2,X.c2,X.own,X.made+1⟩:=by simp
 rw[eg]at CV;have r0:(w.setCell ⟨g,t*7+6,none⟩ (.int .i64 (X.made+1))).cell? ⟨g,t*7,none⟩=some (.int .i64 X.id):=CV.c0;have r6:(w.setCell ⟨g,t*7+6,none⟩ (.int .i64 (X.made+1))).cell? ⟨g,t*7+6,none⟩=some (.int .i64 (X.made+1)):=CV.c6;have w1_:IntKind.i64.wrap (1000*X.id)=1000*X.id:=by rw[IntKind.wrap_i64];omega
 have w3_:IntKind.i64.wrap (1000*X.id+(X.made+1))=1000*X.id+(X.made+1):=by rw[IntKind.wrap_i64];omega
 have w4_:IntKind.i64.wrap (X.made+1)=X.made+1:=by rw[IntKind.wrap_i64];omega
 have NC:Hid (Ending.returned (.int .i64 (1000*X.id+(X.made+1)))= .returned (.int .i64 (Aq X))):=hid (Ff (by unfold Aq;omega));have S:=hid S1;have BL:=hid (show Below B w (w.setCell ⟨g,t*7+6,none⟩ (.int .i64 (X.made+1))) from(Below.refl B w).setCell hg _);have n1:¬P=g:=ne.1;have n2:¬g=P:=Ne.symm ne.1;clear h CW CV S1 el eg hX ne;go_enter func120,ntmps120
 go_wp2_with fail
 have e0:(w.setCell ⟨g,t*7+6,none⟩ (.int .i64 (X.made+1))).drew.cell? ⟨g,t*7,none⟩=some (.int .i64 X.id):=r0;have e6:(w.setCell ⟨g,t*7+6,none⟩ (.int .i64 (X.made+1))).drew.cell? ⟨g,t*7+6,none⟩=some (.int .i64 (X.made+1)):=r6;have e12:(w.setCell ⟨g,t*7+6,none⟩ (.int .i64 (X.made+1))).drew.cell? ⟨P,12,none⟩=some (.pointer (some ⟨g,t*7,none⟩)):=d12;clear r0 r6 d12;have SD:=hid (S.out.below (Below.refl _ _).drew);have BD:=hid (show Below B w (w.setCell ⟨g,t*7+6,none⟩ (.int .i64 (X.made+1))).drew from BL.out.drew);go_region_law fail
 all_goals(
  go_wp2;go_ret;exact⟨NC,SD,BD⟩)
end
open Go.Extern.Stop Go.Stop Go.Extern
theorem CN(c:Int)(u:TypeId)(v:Value)(w:World):
 Calls prog 44 #[.int .i64 c,.iface u v] w fun e w'=>e= .returned (.iface 61 (.pointer (w)))/\w'=w.alloc (.cells #[.int .i64 c,.iface u v] 66):=by
 go_enter func44,ntmps44
 go_wp2;go_ret;exact⟨rfl,rfl⟩
theorem Bv(u:TypeId)(v:Value)(w:World):
 Calls prog 128 #[.iface u v] w fun e w'=>e= .returned (.iface 61 (.pointer (w)))/\w'=w.alloc (.cells #[.int .i64 4,.iface u v] 66):=by
 go_enter func128,ntmps128
 go_wp2_with fail
 refine(CN 4 u v w).mono ?_;rintro e w' ⟨rfl,rfl⟩;go_wp2;go_ret;exact⟨rfl,rfl⟩
theorem Zd(t:Value)(w:World):Calls prog 20 #[.nilIface,t] w fun e w'=>e= .returned (.bool false)/\w'=w:=by
 go_enter func20,ntmps20
 go_wp2;go_ret;exact⟨rfl,rfl⟩
theorem Yv(u:TypeId)(v:Value)(w:World):Calls prog 19 #[.nilIface,.iface u v] w fun e w'=>e= .returned (.bool false)/\w'=w:=by
 have hn:=run_eql_iface_nil_left (P:=prog) w u v underlying57;go_enter func19,ntmps19
 go_wp2;go_ret;exact⟨rfl,rfl⟩
theorem Rq(v:Value)(w:World):(Extern.ReflectliteType.typeOf #[.iface 259 v]).run prog w= .ok (.iface 147 (.agg #[.pointer (some ⟨18,259,none⟩)])) w:=by kernel_rfl
theorem Ki(w:World):((Extern.ReflectliteType.method fun t=>do Rtype.noPackHeld "Comparable" t;(fun a=>Value.bool a.comparable)<$>typeInfo t) #[.agg #[.pointer (some ⟨18,259,none⟩)]]).run prog w= .ok (.bool true) w:=by kernel_rfl
theorem JQ(v:Value)(w:World):(Go.method 390 147 v "Comparable").run prog w= .ok (229,v) w:=by kernel_rfl
theorem WT:(prog.info? 259).map (·.comparable)=some true:=by kernel_rfl
theorem XK:(prog.info? 278).map (·.size)=some 1:=by kernel_rfl
theorem Xv(v:Value)(xT:TypeId)(w:World):(Instr.typeAssert (.iface 259 v) xT 149 true).run prog w= .ok (.tuple #[.nilIface,.bool false]) w:=run_typeAssert_lacksB underlying149 (by kernel_rfl) (by kernel_rfl) v xT w
theorem Np(v:Value)(xT:TypeId)(w:World):(Instr.typeAssert (.iface 259 v) xT 152 true).run prog w= .ok (.tuple #[.nilIface,.bool false]) w:=run_typeAssert_lacksB underlying152 (by kernel_rfl) (by kernel_rfl) v xT w
theorem Mm(v:Value)(xT:TypeId)(w:World):(Instr.typeAssert (.iface 259 v) xT 153 true).run prog w= .ok (.tuple #[.nilIface,.bool false]) w:=run_typeAssert_lacksB underlying153 (by kernel_rfl) (by kernel_rfl) v xT w
theorem X8(v:Value)(xT:TypeId)(w:World):(Instr.typeAssert (.iface 61 v) xT 149 true).run prog w= .ok (.tuple #[.nilIface,.bool false]) w:=run_typeAssert_lacksB underlying149 (by kernel_rfl) (by kernel_rfl) v xT w
theorem Me(v:Value)(xT:TypeId)(w:World):(Instr.typeAssert (.iface 61 v) xT 152 true).run prog w= .ok (.tuple #[.iface 61 v,.bool true]) w:=run_typeAssert_hasB underlying152 (by kernel_rfl) v xT w
theorem Po(v:Value)(w:World):(Go.method 390 61 v "Unwrap").run prog w= .ok (222,v) w:=by kernel_rfl
theorem aB(r:Nat)(c:Int)(b:Addr)(w:World)(hr:Ag w r (.cells #[.int .i64 c,.iface 259 (.pointer (some b))] 66)):
 Calls prog 19 #[.iface 61 (.pointer r),.iface 259 (.pointer (some b))] w fun e w'=>e= .returned (.bool true)/\w'=w:=by
 obtain⟨i,hi,hcmp⟩:=Option.map_eq_some_iff.1 WT;obtain⟨j,hj,hjs⟩:=Option.map_eq_some_iff.1 XK;have h8:=@run_callFunc_extern prog 47 _ Extern.ReflectliteType.typeOf func47 (by kernel_rfl) (by kernel_rfl) (by kernel_rfl) (by kernel_rfl);have h32:=@run_callFunc_extern prog 229 _ (Extern.ReflectliteType.method fun t=>do Rtype.noPackHeld "Comparable" t;pure (.bool (<-typeInfo t).comparable)) func229 (by kernel_rfl) (by kernel_rfl) (by kernel_rfl) (by kernel_rfl);have tT:=Rq;have cT:=Ki;have mR:=JQ;have nE:=Xv;have uE:=Np;have vE:=Mm;have nW:=X8;have uW:=Me;have mU:=Po;obtain⟨q0,q1⟩:=hr.two;have heq:=run_eql_iface_ptr_same (P:=prog) w b underlying57 underlying259 hi hcmp hj;have hty:=run_eql_iface_types (P:=prog) 61 259 (.pointer r) (.pointer (some b)) underlying57 (by decide) w;go_enter func19,ntmps19
 go_wp2;refine wp_loop_rounds 2 ?_;rw[rounds_succ];go_wp2;rw[rounds_succ];go_wp2;go_ret;exact⟨rfl,rfl⟩
theorem aN(r:Nat)(c:Int)(a b:Addr)(ca cb:Array Value)(ta tb:TypeId)(w:World)(hr:Ag w r (.cells #[.int .i64 c,.iface 259 (.pointer (some a))] 66))(hne:a≠b)(ha:w.heap[a.block]? =some (.cells ca ta (0,0)))(hb:w.heap[b.block]? =some (.cells cb tb (0,0))):
 Calls prog 19 #[.iface 61 (.pointer r),.iface 259 (.pointer (some b))] w fun e w'=>e= .returned (.bool false)/\w'=w:=by
 obtain⟨i,hi,hcmp⟩:=Option.map_eq_some_iff.1 WT;obtain⟨j,hj,hjs⟩:=Option.map_eq_some_iff.1 XK;have h8:=@run_callFunc_extern prog 47 _ Extern.ReflectliteType.typeOf func47 (by kernel_rfl) (by kernel_rfl) (by kernel_rfl) (by kernel_rfl);have h32:=@run_callFunc_extern prog 229 _ (Extern.ReflectliteType.method fun t=>do Rtype.noPackHeld "Comparable" t;pure (.bool (<-typeInfo t).comparable)) func229 (by kernel_rfl) (by kernel_rfl) (by kernel_rfl) (by kernel_rfl);have tT:=Rq;have cT:=Ki;have mR:=JQ;have nE:=Xv;have uE:=Np;have vE:=Mm;have nW:=X8;have uW:=Me;have mU:=Po;obtain⟨q0,q1⟩:=hr.two;have heq:=run_eql_iface_ptr_other (P:=prog) w underlying57 underlying259 hi hcmp hj (by rw[hjs];decide) hne ha hb;have hty:=run_eql_iface_types (P:=prog) 61 259 (.pointer r) (.pointer (some b)) underlying57 (by decide) w;go_enter func19,ntmps19
 go_wp2;refine wp_loop_rounds 2 ?_;rw[rounds_succ];go_wp2;rw[rounds_succ];go_wp2;go_ret;exact⟨rfl,rfl⟩
theorem KM(base:Int)(a:Option Addr)(n cap:Nat)(f g:Nat->Int)(w:World)(hn:n<=1048576)(hc:AX w a n f g)
 (hw:∀i,i<n->(Lit.int .i64 (f i)).wf=true/\(Lit.int .i64 (g i)).wf=true):
 Calls prog 76 #[.agg #[.int .i64 base,.slice a n cap]] w fun e w'=>∃c,e= .returned (.agg #[.int .i64 base,.map (some c)])/\w.heap.size<=c/\Br w' c n (look f g n)/\w.heap.size+3<w'.heap.size/\Below w.heap.size w w':=by
 have hmm:=@run_makeMap prog;go_enter func76,ntmps76
 go_wp2;go_loopw [13] (fun i wr=>∃k:Nat,k<=n/\i= .int .i64 k/\Br wr (w.heap.size+1+1) k (look f g k)/\wr.cell? ⟨w.heap.size+1+1+1,0,none⟩=some (.int .i64 base)/\wr.cell? ⟨w.heap.size+1+1+1,1,none⟩=some (.map (some (w.heap.size+1+1)))/\
  wr.cell? ⟨w.heap.size+1,0,none⟩=some (.int .i64 0)/\wr.cell? ⟨w.heap.size+1,1,none⟩=some (.map none)/\wr.frozen? ⟨w.heap.size+1,0,none⟩=false/\wr.frozen? ⟨w.heap.size+1,1,none⟩=false/\w.heap.size+1+1+1<wr.heap.size/\Below w.heap.size w wr) (fun i _=>n-(intOf i).toNat)
 case atStart=>
  refine⟨0,Nat.zero_le _,rfl,?_,by go_simp,by go_simp,by go_simp,by go_simp,by go_simp,by go_simp,by simp,?_⟩
  ·have:=(Br.made ((w.alloc (.cells #[.int .i64 base,.slice a n cap] 30)).alloc (.cells #[.int .i64 0,.map none] 131))).alloc (.cells #[.int .i64 base,.map (some (w.heap.size+1+1))] 131);simpa[look]using this
  ·exact(((Bf w _).alloc (by simp) _).alloc (by simp;omega) _).alloc (by simp;omega) _
 case round=>
  obtain⟨k,hk,rfl,⟨D,hown,hD,hm⟩,x0,x1,y0,y1,f0,f1,hz,hB⟩:=hrel;clear hmm;by_cases hlt':k<n
  ·obtain⟨b,off,rfl,hlt,hcc⟩:=hc (by omega);obtain⟨h1,h2⟩:=hcc k hlt';obtain⟨w1,w2⟩:=hw k hlt';have g1:wr.cell? ⟨b,off+k*2,none⟩=some (.int .i64 (f k)):=(hB.cell (p:=⟨b,_,none⟩) hlt).trans h1;have g2:wr.cell? ⟨b,off+k*2+1,none⟩=some (.int .i64 (g k)):=(hB.cell (p:=⟨b,_,none⟩) hlt).trans h2;clear h1 h2 hcc hc;have hkey:keyOf prog 2 (.int .i64 (f k))=some (.int .i64 (f k)):=keyOf_int_mk underlying2 w1;have W2:Hid ((Lit.int .i64 (g k)).wf=true):=w2;clear w1 w2;go_wp2_with(at_mapUpdate;refine wpList_mapUpdate_own _ rfl _ _ _ 129 rfl 2 2 H9 underlying129 _ (w.heap.size+1+1) k _ rfl (hown.alloc _) (by unfold maxLen;omega) _ _ _ rfl rfl hkey _ [] (plainElem_int underlying2 W2.out) ?_;intro w1 hown1 hgrow1)
   have hm1:=Br.put (k:=f k) (v:=g k) hD hm;rw[Od]at hm1;have s1:w.heap.size+1+1+1<(wr.alloc (.cells #[.int .i64 (f k),.int .i64 (g k)] 78)).heap.size:=(by simp;omega);go_roundw;case rel=>
    refine⟨k+1,by omega,by go_num,⟨_,hown1,hm1.1,hm1.2⟩,?_,?_,?_,?_,?_,?_,Nat.lt_of_lt_of_le s1 hgrow1.size,?_⟩
    ·exact(Cj hgrow1 s1 (by omega)).trans ((Bf wr _).cell (p:=⟨_,_,none⟩) hz |>.trans x0)
    ·exact(Cj hgrow1 s1 (by omega)).trans ((Bf wr _).cell (p:=⟨_,_,none⟩) hz |>.trans x1)
    ·exact(Cj hgrow1 (by omega) (by omega)).trans ((Bf wr _).cell (p:=⟨_,_,none⟩) (by dsimp only;omega) |>.trans y0)
    ·exact(Cj hgrow1 (by omega) (by omega)).trans ((Bf wr _).cell (p:=⟨_,_,none⟩) (by dsimp only;omega) |>.trans y1)
    ·exact(GH hgrow1 (by omega) (by omega)).trans ((Bf wr _).frozen (p:=⟨_,_,none⟩) (by dsimp only;omega) |>.trans f0)
    ·exact(GH hgrow1 (by omega) (by omega)).trans ((Bf wr _).frozen (p:=⟨_,_,none⟩) (by dsimp only;omega) |>.trans f1)
    ·exact(hB.alloc (by omega) _).grown hgrow1 (by omega) (fun j hj=>by cases hj;omega)
   case measure=>simp[intOf];omega
  ·clear hc;have e:k=n:=(by omega);have HM:Br wr (w.heap.size+1+1) n (look f g n):=(by rw[<-e];exact⟨D,hown,hD,hm⟩);clear hown hD hm e;go_wp2;refine bodyPost_ret (v:= .agg #[.int .i64 base,.map (some (w.heap.size+1+1))]) (by simp[results,Tryz.results76,go_sem, *]) rfl ⟨_,rfl,by omega,?_,?_,?_⟩
   ·exact(HM.setCell (by dsimp only;omega) _).setCell (by dsimp only;omega) _
   ·simpa using hz
   ·exact(hB.setCell (by dsimp only;omega) _).setCell (by dsimp only;omega) _
open Go.Sort
open Go.WideShapes (add_plain)
variable {w:World}{b n:Nat}{l:List Int}
theorem Tryz.sortsA(m:Nat):AnyZI.SortsIn prog Tryz.sortedA_ren Fence.wide m:=
 ⟨fun blk off cap ss W hH hblk hsz=>callsIn_wide.2 (AnyM.slices_Sort_int Tryz.sortA blk off cap ss W hH hblk hsz),
  fun p cap W=>callsIn_wide.2 (AnyM.slices_Sort_int_none Tryz.sortA p cap W)⟩
theorem Xe(mb:Option Nat)(W:World):Calls prog 118 #[.map mb] W fun e w'=>e= .returned (.func (.func 144) #[] #[.pointer (W)])/\w'=W.alloc (.cells #[.map mb] 129):=
 (callsIn_wide (n:=5)).1 (AnyZI.keys_in Tryz.keysA Fence.wide 5 trivial rfl mb W)
theorem RS{D:DataW Unit}(hown:w.ownsMap prog 2 (plainElem prog 2) b n D):(intKeys D).Nodup/\∀x,x∈intKeys D↔Maps.has D (.int .i64 x)=true:=by
 obtain⟨es,hD,hpw,_⟩:=hown.entries H9;obtain⟨es',hD',hko⟩:=hown.keysOf;obtain rfl:es=es':=by rw[hD]at hD';simpa using hD'
 subst hD;have hk:∀p∈es,∃x,p.1= .int .i64 x:=fun p hp=>by
  obtain⟨v,hv⟩:=hko p hp;obtain⟨x,_,hx,_⟩:=Maps.keyOf_i64 underlying2 hv;exact⟨x,hx⟩
 constructor
 ·show(es.map fun p=>Go.intOf p.1).Nodup;refine List.pairwise_map.2 (hpw.imp_of_mem fun{p q} hp' hq' hne e=>hne ?_);obtain⟨a,ha⟩:=hk p hp';obtain⟨b,hb⟩:=hk q hq';rw[ha,hb]at e ⊢;exact congrArg _ e
 ·intro x;rw[has_eq,List.any_eq_true];show x∈es.map (fun p=>Go.intOf p.1)↔_;rw[List.mem_map];constructor
  ·rintro⟨p,hp',rfl⟩;obtain⟨a,ha⟩:=hk p hp';exact⟨p,hp',by rw[ha];simp[Lit.sameKey,Go.intOf]⟩
  ·rintro⟨p,hp',hs⟩;obtain⟨a,ha⟩:=hk p hp';rw[ha]at hs;exact⟨p,hp',by rw[ha];simpa[Lit.sameKey,Go.intOf]using hs⟩
def nth(l:List Int)(i:Nat):Int:=l.getD i 0
theorem QD(hs:l.Pairwise (fun a b=>a<=b))(hn:l.Nodup):∀j,j<l.length->∀i,i<j->nth l i<nth l j:=by
 intro j hj i hi;have hp:=hs.and hn;have:=List.pairwise_iff_getElem.1 hp i j (by omega) hj hi;simp only[nth,List.getD_eq_getElem?_getD,List.getElem?_eq_getElem hj,List.getElem?_eq_getElem (show i<l.length by omega),Option.getD_some];have h1:=this.1;have h2:=this.2;omega
theorem Be.of_owns{B:Nat}{v:Value}(h:w.ownsRow B 2 1 v n (l.map Go.encZ)):l.length=n/\∃a c,v= .slice a n c/\Be w a n (nth l)/\∀x,a=some x->B<=x.block:=by
 have hl:l.length=n:=by have:=h.1;simpa using this
 refine⟨hl,?_⟩;rcases h.2 with⟨rfl,rfl⟩|⟨gb,cap,cur,rfl,_⟩
 ·exact⟨_,_,rfl,(fun h0=>by omega),fun x e=>by cases e⟩
 ·refine⟨_,_,rfl,fun h0=>?_,fun x e=>by cases e;exact(World.ownsRow.lt h gb rfl).1⟩;have hc:=World.ownsRow.cells h (g:=gb) rfl;have hlt:=(World.ownsRow.lt h gb rfl).2;refine⟨gb,0,rfl,hlt,fun i hi=>?_⟩;have hi':i<l.length:=by omega
  have t:=hc i (Go.encZ l[i]) (by simp[hi']);rw[add_plain]at t;rw[t];simp[nth,hi']
def JD(w:World)(b n:Nat)(p:Int->Bool):Prop:=
 ∃D:DataW Unit,w.ownsMap prog 2 (plainElem prog 2) b n D/\∀x,Maps.has D (.int .i64 x)=p x
theorem Br.keys{m:Int->Option Int}(h:Br w b n m):JD w b n (fun x=>(m x).isSome):=by
 obtain⟨D,h1,_,h3⟩:=h;exact⟨D,h1,fun x=>(h3 x).1⟩
theorem TN(b nn:Nat)(p:Int->Bool)(w:World)(hm:JD w b nn p)(hnn:nn<=4194304):
 Calls prog 117 #[.func (.func 144) #[] #[.pointer (w)]] (w.alloc (.cells #[.map (some b)] 129)) fun e w'=>∃(a:Option Addr) (n cap:Nat) (h:Nat->Int),e= .returned (.slice a n cap)/\n<=nn/\
  Be w' a n h/\(∀x,(∃i,i<n/\h i=x)↔p x=true)/\(∀j,j<n->∀i,i<j->h i<h j)/\(∀i,i<n->(Lit.int .i64 (h i)).wf=true)/\(∀x,a=some x->w.heap.size<=x.block)/\Below w w w':=by
 obtain⟨D,hown,hall⟩:=hm;have hbl:=hown.lt;have hsz:=hown.size_le;have hseq:SeqGives Fence.wide 2 prog 144 #[.pointer (w)] Go.encZ (fun ss=>ss.Perm (intKeys D)) (Maps.size D) (w.alloc (.cells #[.map (some b)] 129)):=
  AnyZI.keys_gives (ρ:=Tryz.keysA_ren) {Tryz.keysA with} Fence.wide _ trivial rfl (by omega) w b nn D _ (by simp) (by simp) (by
   obtain⟨es,clock,hb,Ft,hs,hD⟩:=hown;exact⟨es,clock,(Below.heap_alloc _ _ b hbl).trans hb,Ft,hs,hD⟩)
 have cS:=AnyZI.sorted_in Tryz.sortedA Fence.wide 5 trivial trivial trivial trivial rfl (by omega) (Tryz.sortsA _) (enters_of func141 (by kernel_rfl) rfl) 144 #[.pointer (w)] trivial (enters_of func144 (by kernel_rfl) rfl) _ _ (by unfold maxLen;omega) (by omega) _ hseq;change CallsIn _ _ prog 117 _ _ _ at cS;refine((callsIn_wide (n:=5)).1 cS).mono ?_;rintro e w' ⟨v,ss,rfl,hp,hrow,_,hb⟩;obtain⟨hnd,hmem⟩:=RS hown;have hq:(ss.mergeSort (fun x y=>decide (x<=y))).Perm (intKeys D):=(List.mergeSort_perm ss _).trans hp;obtain⟨hlen,a,c,rfl,hat,hnew⟩:=Be.of_owns (B:=_) hrow;have hle:ss.length<=nn:=by
  have h1:=hp.length_eq;have h2:(intKeys D).length=Maps.size D:=by
   obtain⟨es,rfl,_⟩:=hown.keysOf;simp[intKeys,Maps.size]
  omega
 have tr:∀a b c:Int,decide (a<=b)=true->decide (b<=c)=true->decide (a<=c)=true:=fun a b c h1 h2=>by simp only[decide_eq_true_eq]at *;omega
 have tO:∀a b:Int,(decide (a<=b)||decide (b<=a))=true:=fun a b=>by simp only[Bool.or_eq_true,decide_eq_true_eq];omega
 have hsorted:=(List.pairwise_mergeSort (le:=fun x y=>decide (x<=y)) tr tO ss).imp (fun{a b} h=>by simpa using h:∀{a b:Int},_->a<=b);refine⟨a,ss.length,c,nth (ss.mergeSort (fun x y=>decide (x<=y))),rfl,hle,hat,fun x=>?_,?_,fun i hi=>?_,fun x e=>by have:=hnew x e;simp at this;omega,?_⟩
 ·rw[<-hall x,<-hmem x,<-hq.mem_iff];constructor
  ·rintro⟨i,hi,rfl⟩;have hi':i<(ss.mergeSort (fun x y=>decide (x<=y))).length:=(by omega);simp only[nth,List.getD_eq_getElem?_getD,List.getElem?_eq_getElem hi',Option.getD_some];exact List.getElem_mem hi'
  ·intro hx;obtain⟨i,hi,rfl⟩:=List.mem_iff_getElem.1 hx;exact⟨i,by omega,by simp only[nth,List.getD_eq_getElem?_getD,List.getElem?_eq_getElem hi,Option.getD_some]⟩
 ·have:=QD hsorted (hq.nodup_iff.2 hnd);rw[hlen]at this;exact this
 ·have hi':i<(ss.mergeSort (fun x y=>decide (x<=y))).length:=by omega
  refine intKeys_wf hown underlying2 _ (hq.mem_iff.1 ?_);simp only[nth,List.getD_eq_getElem?_getD,List.getElem?_eq_getElem hi',Option.getD_some];exact List.getElem_mem hi'
 ·exact(Bf w _).trans (hb.mono (by simp))
theorem WH(b nn:Nat)(m:Int->Option Int)(w:World)(hm:Br w b nn m):
 Calls prog 115 #[.map (some b)] w fun e w'=>e= .returned (.map (some w))/\JD w' w nn (fun x=>(m x).isSome)/\Below w w w':=by
 obtain⟨D,hown,hall⟩:=hm.keys;have hcon:=AnyW.maps_Clone_owns Tryz.cloneA 2 (plainElem prog 2) b nn D w hown;change Calls prog 115 _ _ _ at hcon;refine hcon.mono ?_;rintro e w' ⟨rfl,h1,_,hB⟩;exact⟨rfl,⟨D,h1,hall⟩,hB⟩
theorem VB{w':World}{b' n':Nat}{D D':DataW Unit}(h:w.ownsMap prog 2 (plainElem prog 2) b n D)(h':w'.ownsMap prog 2 (plainElem prog 2) b' n' D')(k:Lit):
 Maps.has (Lib.mergeD D D') k=(Maps.has D k||Maps.has D' k):=by
 obtain⟨es,rfl,_,hk⟩:=h'.entries H9;exact has_foldPut k es D (h.tidy H9).isMap hk
theorem Xs(bd bs nd ns:Nat)(p q:Int->Bool)(w:World)(hd:JD w bd nd p)(hs:JD w bs ns q)(hne:bd≠bs)(hroom:nd+ns<=4194304):
 Calls prog 116 #[.map (some bd),.map (some bs)] w fun e w'=>e= .returned (.tuple #[])/\JD w' bd (nd+ns) (fun x=>p x||q x)/\w.grownBy w' (some bd):=by
 obtain⟨D,hD,hp⟩:=hd;obtain⟨E,hE,hq⟩:=hs;have hsz:=hE.size_le;have hcon:=AnyX.maps_Copy Tryz.copyA H9 (plainElem prog 2) bd bs nd ns D E w hD hE hne (by unfold maxLen;omega);change Calls prog 116 _ _ _ at hcon;refine hcon.mono ?_;rintro e w' ⟨rfl,h1,_,hg⟩;exact⟨rfl,⟨_,h1.mono (by omega),fun x=>by rw[VB hD hE,hp,hq]⟩,hg⟩
theorem Sp(b1:Int)(c1 n1:Nat)(m1:Int->Option Int)(b2:Int)(c2 n2:Nat)(m2:Int->Option Int)(w:World)(h1:Br w c1 n1 m1)(h2:Br w c2 n2 m2)(hn:n1+n2<=4194304):
 Calls prog 77 #[.agg #[.int .i64 b1,.map (some c1)],.agg #[.int .i64 b2,.map (some c2)]] w fun e w'=>∃(a:Option Addr) (n cap:Nat) (h:Nat->Int),e= .returned (.slice a n cap)/\n<=n1+n2/\
  Be w' a n h/\(∀x,(∃i,i<n/\h i=x)↔((m1 x).isSome||(m2 x).isSome)=true)/\(∀j,j<n->∀i,i<j->h i<h j)/\(∀i,i<n->(Lit.int .i64 (h i)).wf=true)/\Below w w w':=by
 have hb0:=(Bf w (.cells #[.int .i64 b1,.map (some c1)] 131)).alloc (by simp) (.cells #[.int .i64 b2,.map (some c2)] 131);have lt2:=h2.lt;have e1:=h1.below hb0;go_enter func77,ntmps77
 go_wp2_with fail
 refine(WH _ _ _ _ e1).mono ?_;rintro e w1 ⟨rfl,k1,hb1⟩;obtain⟨q1,_⟩:=JP hb1;have z1:w.heap.size+1+1<=w1.heap.size:=by have:=hb1.size;simpa using this
 have B1:Below w w w1:=hb0.trans (hb1.mono (by simp;omega));have e2:=(h2.below B1).keys;simp at k1;go_wp2_with fail
 refine(Xs _ _ _ _ _ _ _ k1 e2 (by omega) hn).mono ?_;rintro e w2 ⟨rfl,k2,hg2⟩;have G2:Below (w.heap.size+1+1) w1 w2:=(Below.refl _ _).grown hg2 z1 (fun k e=>by cases e;exact Nat.le_refl _);have B2:Below w w w2:=B1.trans (G2.mono (by omega));clear q1;go_wp2_with fail
 refine(Xe _ _).mono ?_;rintro e w3 ⟨rfl,rfl⟩;go_wp2_with fail
 refine(TN _ _ _ _ k2 hn).mono ?_;rintro e w4 ⟨a,n,cap,h,rfl,hle,hat,hmem,hris,hwf,_,hb4⟩;go_wp2;go_ret;exact⟨a,n,cap,h,rfl,hle,hat,hmem,hris,hwf,B2.trans (hb4.mono B2.size)⟩
variable {W W':World}{P:Nat}{x y:Value}{a:Addr}
theorem LX{f g:Nat->Int}{n:Nat}{x:Int}(h:(look f g n x).isSome=true):∃i,i<n/\f i=x:=by
 induction n with
 |zero=>simp[look]at h
 |succ n ih=>
  simp only[look]at h;by_cases e:f n=x
  ·exact⟨n,by omega,e⟩
  ·rw[if_neg e]at h;obtain⟨i,hi,e⟩:=ih h;exact⟨i,by omega,e⟩
theorem Qf(base:Int)(c:Nat)(n:Nat)(f g:Nat->Int)(x:Int)(w:World)(hm:Br w c n (look f g n))(hx:(Lit.int .i64 x).wf=true):
 Calls prog 78 #[.agg #[.int .i64 base,.map (some c)],.int .i64 x] w fun e w'=>e= .returned (.int .i64 (EZ base n f g x))/\Below w w w':=ZS base c n (look f g n) x w hm hx
def Cd(W:World)(P:Nat)(x y:Value):Prop:=W.heap[P]? =some (.cells #[x,y] 131)
theorem Cd.new(W:World)(x y:Value):Cd (W.alloc (.cells #[x,y] 131)) W x y:=blk_alloc_new _ _
theorem Cd.lt(h:Cd W P x y):P<W.heap.size:=(Array.getElem?_eq_some_iff.1 h).1
theorem Cd.alloc(h:Cd W P x y)(o:Obj):Cd (W.alloc o) P x y:=(blk_alloc_lt _ _ _ h.lt).trans h
theorem Cd.drew(h:Cd W P x y):Cd W.drew P x y:=h
theorem Cd.below(h:Cd W P x y)(hb:Below W W W'):Cd W' P x y:=(hb.block P h.lt).trans h
theorem Cd.other(h:Cd W P x y)(hne:P≠a.block)(v:Value):Cd (W.setCell a v) P x y:=(blk_setCell_other _ _ _ _ hne).trans h
theorem Cd.set0(h:Cd W P x y)(v:Value):Cd (W.setCell ⟨P,0,none⟩ v) P v y:=by
 unfold Cd at *;simp[World.setCell,Array.getElem?_modify,h]
theorem Cd.set1(h:Cd W P x y)(v:Value):Cd (W.setCell ⟨P,1,none⟩ v) P x v:=by
 unfold Cd at *;simp[World.setCell,Array.getElem?_modify,h]
theorem Cd.cells(h:Cd W P x y):W.cell? ⟨P,0,none⟩=some x/\W.cell? ⟨P,1,none⟩=some y:=by
 unfold Cd at h;simp[World.cell?,h]
theorem Cd.new'(h:P=W.heap.size):Cd (W.alloc (.cells #[x,y] 131)) P x y:=by rw[h];exact Cd.new _ _ _
def Gi(W:World)(P:Nat):Prop:=∃x y,Cd W P x y
theorem Gi.new'(h:P=W.heap.size):Gi (W.alloc (.cells #[x,y] 131)) P:=⟨x,y,Cd.new' h⟩
theorem Gi.alloc(h:Gi W P)(o:Obj):Gi (W.alloc o) P:=by obtain⟨x,y,h⟩:=h;exact⟨x,y,h.alloc o⟩
theorem Gi.drew(h:Gi W P):Gi W.drew P:=h
theorem Gi.below(h:Gi W P)(hb:Below W W W'):Gi W' P:=by obtain⟨x,y,h⟩:=h;exact⟨x,y,h.below hb⟩
theorem Gi.other(h:Gi W P)(hne:P≠a.block)(v:Value):Gi (W.setCell a v) P:=by obtain⟨x,y,h⟩:=h;exact⟨x,y,h.other hne v⟩
theorem Cd.set01(h:Gi W P)(u v:Value):Cd ((W.setCell ⟨P,0,none⟩ u).setCell ⟨P,1,none⟩ v) P u v:=by obtain⟨x,y,h⟩:=h;exact(h.set0 u).set1 v
theorem bT{a b:Nat}(h:a+3<b):a<b/\a+1<b/\b≠a/\b≠a+1/\b+1≠a:=by omega
variable {W W':World}
structure BF(W W':World):Prop where
 size:W.heap.size<=W'.heap.size
 same:∀(k:Nat) (o:Obj),W.heap[k]? =some o->(o.isCells=true∨o.isWalk=true)->W'.heap[k]? =some o
theorem BF.refl(W:World):BF W W:=⟨Nat.le_refl _,fun _ _ h _=>h⟩
theorem BF.trans{A B C:World}(h:BF A B)(k:BF B C):BF A C:=
 ⟨Nat.le_trans h.size k.size,fun i o hi ho=>k.same i o (h.same i o hi ho) ho⟩
theorem BF.book{w:World}(W:World)(l:Nat)(o o':Obj)(_:w.heap.size<=l)(h:W.heap[l]? =some o)(hc:o.isCells=false)(hw:o.isWalk=false):BF W (W.putObj l o'):=
 ⟨by simp,fun k o'' hk ho=>by
   by_cases e:k=l
   ·subst e;rw[h]at hk;cases hk;rw[hc,hw]at ho;simp at ho
   ·exact(World.putObj_heap_other e).trans hk⟩
theorem BF.of_below(h:Below W W W'):BF W W':=
 ⟨h.size,fun k _ hk _=>(h.block k (Array.getElem?_eq_some_iff.1 hk).1).trans hk⟩
theorem BF.cell(h:BF W W'){a:Addr}{v:Value}(hv:W.cell? a=some v):W'.cell? a=some v:=by
 have hv':=hv;unfold World.cell? at hv;cases ho:W.heap[a.block]? with
 |none=>simp[ho]at hv
 |some o=>
  have hc:o.isCells=true:=by cases o<;>simp_all[Obj.isCells]
  have:=h.same _ _ ho (.inl hc);exact(World.cell?_of_block (this.trans ho.symm)).trans hv'
theorem BF.map(h:BF W W'){b n:Nat}{m:Int->Option Int}(hm:Br W b n m):Br W' b n m:=by
 have hm':=hm;obtain⟨D,⟨es,clock,hb,F,hs,hD⟩,r⟩:=hm;exact hm'.of_block ((h.same b _ hb (.inr rfl)).trans hb.symm)
theorem Ha(h:Below W W W'):W.grownBy W' none:=⟨h.os,h.tape,h.output,h.size,fun k hk _=>h.block k hk⟩
end Go.Proofs.YteoihknaljgocaaGreatDoor
