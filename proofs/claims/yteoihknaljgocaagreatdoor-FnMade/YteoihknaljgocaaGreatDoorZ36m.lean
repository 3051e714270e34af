import Derived.Lib.Bytealg
import Derived.Lib.IndexLaws
import Derived.Test.YteoihknaljgocaaGreatDoorNF4m
set_option maxRecDepth 100000
set_option maxHeartbeats 8000000
namespace Go.Proofs.YteoihknaljgocaaGreatDoor
open Go Go.RowKit Go.Deep Go.Maps Go.BigFrame Go.Shelf Go.Proofs.Tryz
variable {lt:List Ae}{lo:List Ab}
structure OZ(lt:List Ae)(lo:List Ab):Prop where
 tn:1<=lt.length/\lt.length<=9
 on:1<=lo.length/\lo.length<=271
 t:∀x∈lt,x.small
 o:∀x∈lo,x.small/\(0<=x.id/\x.id<=1000000)/\Q4 x.up
theorem Sw(ok:okL lt lo=true):OZ lt lo:=by
 refine⟨FE ok,Ek ok,fun x hx=>(Ef ok x hx).small,fun x hx=>?_⟩;have f:=Ed ok x hx;have it:=Lg ok x hx;refine⟨⟨by have:=(BH f.l1).2;omega,by have:=Gc f.data;omega,⟨by omega,fun i hi=>by have:=Gc (it.2 i hi);omega⟩,by have:=Jb f.own;omega,by have:=(BH f.l2).2;omega⟩,Hv ok x hx,?_⟩;obtain⟨i,hi,e⟩:=List.mem_iff_getElem.1 hx;have e2:Aa lo i=x:=(Az hi).trans e;by_cases h0:i=0
 ·subst h0;have:=(FF ok).2.2;rw[e2]at this;rw[this];exact Q4.of (by omega) (by omega)
 ·obtain⟨p,p1,p2,_⟩:=(Bt.1 ok).box i (by omega) hi;have p3:(Aa lo p).id=(Aa lo i).up:=p2;have hp:p<lo.length:=p1;have:=Hv ok _ (List.getElem_mem hp);rw[e2,Az hp]at p3;rw[<-p3];exact Q4.of (by omega) (by omega)
theorem I5.F(h:I5 lt lo):OZ lt lo:=by
 cases h with
 |right h=>exact Sw h
 |up h u o d hu ho hd=>
  have f:=Sw h;refine⟨f.tn,by simpa using f.on,f.t,fun x hx=>?_⟩;rcases Eu hx with rfl|hx
  ·have:=f.o _ (List.getElem_mem hu);rw[<-ho]at this;exact⟨this.1,this.2.1,hd⟩
  ·exact f.o x hx
 |kind h u o d hu ho hd=>
  have f:=Sw h;refine⟨f.tn,by simpa using f.on,f.t,fun x hx=>?_⟩;rcases Eu hx with rfl|hx
  ·have:=f.o _ (List.getElem_mem hu);rw[<-ho]at this;exact this
  ·exact f.o x hx
 |made h X d ht hX hd=>
  have f:=Sw h;refine⟨by simpa using f.tn,f.on,fun x hx=>?_,f.o⟩;rcases Eu hx with rfl|hx
  ·have:=f.t _ (List.getElem_mem ht);rw[<-hX]at this;exact this
  ·exact f.t x hx
theorem OZ.data(h:OZ lt lo):∀x∈lo,x.data.size<=maxLen:=fun x hx=>by
 have:=(h.o x hx).1.2.1;unfold maxLen;omega
theorem Zi(a:Option Addr)(n cap:Nat)(w:World):Calls prog 4 #[.slice a n cap] w fun e w'=>e= .returned (.bool (decide (1048576<n)))/\w'=w:=by
 go_enter func4,ntmps4
 go_wp2;go_ret;refine⟨Ah ?_,rfl⟩;congr 1;apply propext;omega
theorem I5.S{lt:List Ae}{lo:List Ab}(h:I5 lt lo):WI lt lo:=by
 cases h with
 |right h=>exact WI.of h
 |up h u o d hu ho hd=>
  have f:=WI.of h;refine⟨f.tn,by simpa using f.on,fun x hx=>?_,fun x hx=>?_,f.thr⟩
  ·rcases Eu hx with rfl|hx
   ·have t:=f.data _ (List.getElem_mem hu);rw[<-ho]at t;exact t
   ·exact f.data x hx
  ·rcases Eu hx with rfl|hx
   ·have t:=f.id _ (List.getElem_mem hu);rw[<-ho]at t;exact t
   ·exact f.id x hx
 |kind h u o d hu ho hd=>
  have f:=WI.of h;refine⟨f.tn,by simpa using f.on,fun x hx=>?_,fun x hx=>?_,f.thr⟩
  ·rcases Eu hx with rfl|hx
   ·have t:=f.data _ (List.getElem_mem hu);rw[<-ho]at t;exact t
   ·exact f.data x hx
  ·rcases Eu hx with rfl|hx
   ·have t:=f.id _ (List.getElem_mem hu);rw[<-ho]at t;exact t
   ·exact f.id x hx
 |made h X d ht hX hd=>
  have f:=WI.of h;refine⟨by simpa using f.tn,f.on,f.data,f.id,fun x hx=>?_⟩;rcases Eu hx with rfl|hx
  ·have t:=f.thr _ (List.getElem_mem ht);rw[<-hX]at t;exact t
  ·exact f.thr x hx
variable {P:Nat}{w w':World}{s:Al}
theorem Pl(tmps:Array Value)(W:World)(P Q:Nat)(x y x0 x1 x2 x3 x4 x5 x6 x7 x8 x9:Value)(h:Ag W P (.cells #[x,y] 27))(h':Ag W Q (.cells #[x0,x1,x2,x3,x4,x5,x6,x7,x8,x9] 32))(h2:tmps[2]? =some (.pointer P))(h3:tmps[3]? =some (.pointer Q)):
 (results Tryz.f5 tmps).run prog W= .ok (.tuple #[.agg #[x,y],.agg #[x0,x1,x2,x3,x4,x5,x6,x7,x8,x9]]) W:=by
 obtain⟨y0,y1⟩:=h.two;obtain⟨z0,z1,z2,z3,z4,z5,z6,z7,z8,z9⟩:=h'.jE;simp[results,Tryz.results5,go_sem,h2,h3,y0,y1,z0,z1,z2,z3,z4,z5,z6,z7,z8,z9]
theorem TY{W:World}{Q:Nat}{o:Obj}(h:Ag W P o)(hne:Q≠P)(x0 x1 x2 x3 x4 x5 x6 x7 x8 x9:Value):Ag ((((((((((W.setCell ⟨Q,0,none⟩ x0).setCell ⟨Q,1,none⟩ x1).setCell ⟨Q,2,none⟩ x2).setCell ⟨Q,3,none⟩ x3).setCell ⟨Q,4,none⟩ x4).setCell ⟨Q,5,none⟩ x5).setCell ⟨Q,6,none⟩ x6).setCell ⟨Q,7,none⟩ x7).setCell ⟨Q,8,none⟩ x8).setCell ⟨Q,9,none⟩ x9) P o:=
 (((((((((h.other hne _).other hne _).other hne _).other hne _).other hne _).other hne _).other hne _).other hne _).other hne _).other hne _
theorem Vq{B:Nat}{vt vo:Value}{lt:List Ae}{lo:List Ab}{y0 y1 y2 y3 y4 y5 y6 y7 y8 y9:Value}(h:BJ w B vt vo lt lo)(hb:Ag w P (.cells #[y0,y1,y2,y3,y4,y5,y6,y7,y8,y9] 32))(x0 x1 x2 x3 x4 x5 x6 x7 x8 x9:Value):BJ ((((((((((w.setCell ⟨P,0,none⟩ x0).setCell ⟨P,1,none⟩ x1).setCell ⟨P,2,none⟩ x2).setCell ⟨P,3,none⟩ x3).setCell ⟨P,4,none⟩ x4).setCell ⟨P,5,none⟩ x5).setCell ⟨P,6,none⟩ x6).setCell ⟨P,7,none⟩ x7).setCell ⟨P,8,none⟩ x8).setCell ⟨P,9,none⟩ x9) B vt vo lt lo:=by
 have h0:=hb.jB (i:=0) x0;have h1:=h0.jB (i:=1) x1;have h2:=h1.jB (i:=2) x2;have h3:=h2.jB (i:=3) x3;have h4:=h3.jB (i:=4) x4;have h5:=h4.jB (i:=5) x5;have h6:=h5.jB (i:=6) x6;have h7:=h6.jB (i:=7) x7;have h8:=h7.jB (i:=8) x8;exact(((((((((h.set hb (.inr rfl) x0).set h0 (.inr rfl) x1).set h1 (.inr rfl) x2).set h2 (.inr rfl) x3).set h3 (.inr rfl) x4).set h4 (.inr rfl) x5).set h5 (.inr rfl) x6).set h6 (.inr rfl) x7).set h7 (.inr rfl) x8).set h8 (.inr rfl) x9
def Al.own(s:Al)(w:World):Prop:=s.c1.new 0 w/\s.c2.new 0 w/\s.data.size<=100/\0<=s.id/\s.id<=1000000
theorem Al.own.at(h:s.own w):s.at w:=⟨h.1.1,h.2.1.1,Nat.le_trans h.2.2.1 (by unfold maxLen;omega)⟩
theorem Al.own.keeps(h:s.own w)(k:En w w'):s.own w':=⟨h.1.keeps k,h.2.1.keeps k,h.2.2⟩
theorem Al.own.below(h:s.own w)(k:Below w w w'):s.own w':=⟨h.1.below k,h.2.1.below k,h.2.2⟩
theorem Qh(a:Option Addr)(n cap:Nat)(w:World)(hn:n<=1048576)(hb:BytesAt w a n):
 Calls prog 5 #[.slice a n cap] w fun e w'=>∃(lt:List Ae) (lo:List Ab) (g ca q co:Nat) (s:Al),e= .returned (.tuple #[.agg #[.slice g lt.length ca,.slice q lo.length co],.agg s])/\BJ w' w (.slice g lt.length ca) (.slice q lo.length co) lt lo/\I5 lt lo/\s.own w'/\Below w w w':=by
 have n1:No (.cells #[.int .i64 0,.int .i64 0,.int .i64 0,.int .i64 0,.int .i64 0,.string (ByteArray.mk #[]),.int .i64 0,.slice none 0 0,.int .i64 0,.slice none 0 0] 32):=⟨⟩;have n5:No (.cells #[.slice none 0 0,.slice none 0 0] 27):=⟨⟩;have v0:((w.alloc n5).alloc n1).heap.size=w.heap.size+2:=by simp
 have R0:Hid (Ag ((w.alloc n5).alloc n1) w n5):=hid ((Ag.new w _).alloc _);have S0:Hid (Ag ((w.alloc n5).alloc n1) (w.heap.size+1) n1):=hid (by have:=Ag.new (w.alloc n5) n1;simpa using this);have B0:Hid (Below w w ((w.alloc n5).alloc n1)):=hid ((Bf w _).alloc (by simp) _);have HB:=hid (hb.below B0);clear hb;go_enter func5,ntmps5
 go_wp2_with fail
 generalize ((w.alloc n5).alloc n1)=V at *;refine(To a n cap V hn HB).mono ?_;rintro e w1 ⟨rb,rfl,r1⟩;have R1:=hid r1;have l1:=r1.lt;have le1:=r1.le;clear r1;go_wp2_with fail
 refine(Q3 V rb a n cap w1 R1).mono ?_;rintro e w2 ⟨lt,lo,g,ca,q,co,rfl,ks,kd,r2,g2⟩;have KD:=hid kd;have n2:Na #[.slice g lt.length ca,.slice q lo.length co]:=⟨⟩;have K3:=hid (ks.below (Bf w2 (.cells n2 27)));have C3:=hid (Ag.new w2 (.cells n2 27));have R3:=hid (r2.below (Bf w2 (.cells n2 27)));have c2:w.heap.size+1<w2.heap.size:=by have:=g2.size;omega
 have c3:rb<w2.heap.size:=by have:=g2.size;omega
 clear r2 ks kd g2 R1;go_wp2_with fail
 generalize w2.alloc (.cells n2 27)=W3 at *;generalize w2.heap.size=C at *;have n3:Nv (.slice g lt.length ca):=⟨⟩;have n4:Nv (.slice q lo.length co):=⟨⟩;have DR:Hid (BJ W3.drew w1 n3 n4 lt lo/\Ag W3.drew C (.cells n2 27)):=hid ⟨K3.out.below (AF (Below.refl _ W3)),C3.out.below (AF (Below.refl _ W3))⟩;have E1:Hid (∀args w,(callFunc 17 args).run prog w= .ok (.enter 17 args) w):=hid (enters_of func17 (by kernel_rfl) rfl);have FI:Hid (Calls prog 17 #[.pointer rb,.agg n2] W3.drew fun e w'=>∃v,e= .returned v/\(∃s:Al,v= .agg s/\s.own w'/\BJ w' w1 n3 n4 lt lo/\Ag w' C (.cells n2 27)/\Ag w' w n5/\Ag w' (w.heap.size+1) n1/\Below w w w')):=hid (by
  have rd:=R3.out.drew;refine(Nl V rb a n cap W3.drew rd lt lo g ca q co w1 DR.out.1 l1 KD.out.S).mono ?_;rintro e w' ⟨s,e1,hs,r,g'⟩;exact⟨_,e1,s,rfl,hs,DR.out.1.jX g' l1,DR.out.2.grown g' (by simp;omega),R0.out.below r.E,S0.out.below r.E,Af B0 r.E⟩)
 refine Am 5 (fun W=>BJ W w1 n3 n4 lt lo/\Ag W C (.cells n2 27)) (by kernel_rfl) ?_;refine tr 0 10 (.agg n2) DR ?_ (hy:=fun W h=>by obtain⟨z0,z1⟩:=h.2.two;go_simp);refine tr 1 11 (.pointer rb) DR ?_;refine tr 2 12 (.agg n2) DR ?_ (hy:=fun W h=>by obtain⟨z0,z1⟩:=h.2.two;go_simp);generalize W3.drew=WD at *;refine Ac (i:=3) (by kernel_rfl) rfl ?_;intro K hK;refine AL (by rfl) 17 _ _ _ (by rfl) E1 _ _ (by rfl) (by rfl) (some 13) (by rfl) _ FI ?_;rintro v w4 ⟨s,rfl,hs,hk,hC,hR,hS,hB⟩;have KX:=hid hk;have RX:=hid hR;have SX:=hid hS;have BX:=hid hB;have HX:=hid hs;have CX:=hid hC;refine hK _ _ (fun _=>⟨KX,hC⟩) ?_;clear hK K hS hR hB hs hk hC;simp only[ap,List.set];obtain⟨r0,r1⟩:=RX.out.two;have rf:=RX.out.jC;refine Ac (i:=4) (by kernel_rfl) rfl ?_;intro K hK;go_simp;have cne:w.heap.size≠C:=by omega
 refine hK _ _ (fun _=>⟨(KX.out.set RX (.inl rfl) _).set (RX.out.jB (i:=0) _) (.inl rfl) _,(CX.out.other cne _).other cne _⟩) ?_;clear hK K r0 r1 rf;try simp only[ap,List.set]
 have ne:w.heap.size≠w.heap.size+1:=by omega
 have S4:=hid ((SX.out.other (i:=0) ne n3).other (i:=1) ne n4);have R4:=hid ((RX.out.jB (i:=0) n3).jB (i:=1) n4);have K4:=hid ((KX.out.set RX (.inl rfl) (i:=0) n3).set (RX.out.jB (i:=0) _) (.inl rfl) (i:=1) n4);have B4:Hid (Below w w ((w4.setCell ⟨w,0,none⟩ n3).setCell ⟨w,1,none⟩ n4)):=hid ((BX.out.setCell nr _).setCell nr _);have H4:=hid ((HX.out.keeps (Au (i:=0) RX (by decide) n3)).keeps (Au (i:=1) (RX.out.jB (i:=0) _) (by decide) n4));clear SX RX KX BX HX;generalize (w4.setCell ⟨w,0,none⟩ n3).setCell ⟨w,1,none⟩ n4=w5 at *;obtain⟨s0,s1,s2,s3,s4,s5,s6,s7,s8,s9⟩:=S4.out.jE;have sf:=S4.out.jC;refine Ac (i:=5) (by kernel_rfl) rfl ?_;intro K hK;go_simp;refine hK _ _ (fun h=>absurd h (by decide)) ?_;clear hK K s0 s1 s2 s3 s4 s5 s6 s7 s8 s9 sf;refine Aj (by kernel_rfl) ?_ _;go_wp2;have n6:Nv (.slice s.c1.a s.c1.n s.c1.k):=⟨⟩;have n7:Nv (.slice s.c2.a s.c2.n s.c2.k):=⟨⟩;refine bodyPost_ret (Pl _ _ w (w.heap.size+1) _ _ _ _ _ _ _ _ _ _ _ _ (TY R4 (Ne.symm ne) (.int .i64 s.th) (.int .i64 s.kind) (.int .i64 s.id) (.int .i64 s.to) (.int .i64 s.cat) (.string s.data) (.int .i64 s.b1) n6 (.int .i64 s.b2) n7) (Ln S4 (.int .i64 s.th) (.int .i64 s.kind) (.int .i64 s.id) (.int .i64 s.to) (.int .i64 s.cat) (.string s.data) (.int .i64 s.b1) n6 (.int .i64 s.b2) n7) rfl rfl) rfl ⟨lt,lo,g,ca,q,co,s,rfl,?_,KD,?_,?_⟩
 ·exact Vq (K4.out.base (by omega)) S4 (.int .i64 s.th) (.int .i64 s.kind) (.int .i64 s.id) (.int .i64 s.to) (.int .i64 s.cat) (.string s.data) (.int .i64 s.b1) n6 (.int .i64 s.b2) n7
 ·exact H4.out.keeps (Jk S4 (by decide) (.int .i64 s.th) (.int .i64 s.kind) (.int .i64 s.id) (.int .i64 s.to) (.int .i64 s.cat) (.string s.data) (.int .i64 s.b1) n6 (.int .i64 s.b2) n7)
 ·exact ZE B4 (by omega) (.int .i64 s.th) (.int .i64 s.kind) (.int .i64 s.id) (.int .i64 s.to) (.int .i64 s.cat) (.string s.data) (.int .i64 s.b1) n6 (.int .i64 s.b2) n7
theorem aV{x:Int}(h:Q4 x):(Lit.int .i64 x).wf=true:=by
 have e1:IntKind.i64.min= -9223372036854775808:=by decide
 have e2:IntKind.i64.max=9223372036854775807:=by decide
 simp[Lit.wf,e1,e2];unfold Q4 at h;omega
theorem Hy.at{w:World}{B ca co:Nat}{ta oa:Option Addr}{lt:List Ae}{lo:List Ab}(h:Hy w B (.slice ta lt.length ca) (.slice oa lo.length co) lt lo)(f:OZ lt lo):(Bo ta ca oa co lt lo).at w:=
 ⟨Nat.le_trans f.tn.2 (by unfold maxLen;omega),Nat.le_trans f.on.2 (by unfold maxLen;omega),h.t.lies (fun x hx=>(h.tn x hx).at),h.o.lies (fun x hx=>(h.on x hx).at (f.data x hx))⟩
theorem OZ.wf{lt:List Ae}{lo:List Ab}(f:OZ lt lo):∀i,i<lo.length->(Lit.int .i64 (Aa lo i).id).wf=true/\(Lit.int .i64 (Aa lo i).up).wf=true:=fun i hi=>by
 have h:=f.o _ (List.getElem_mem hi);rw[Az hi];exact⟨I4 h.2.1,aV h.2.2⟩
theorem OZ.small{lt:List Ae}{lo:List Ab}(f:OZ lt lo)(ta oa:Option Addr)(ca co:Nat):(Bo ta ca oa co lt lo).small:=⟨⟨by show lt.length<=1048576;have:=f.tn.2;omega,fun i hi=>by
 have hi':i<lt.length:=hi;show(Ao lt i).small;rw[Cy hi'];exact f.t _ (List.getElem_mem hi')⟩,by show lo.length<=1048576;have:=f.on.2;omega,fun i hi=>by
 have hi':i<lo.length:=hi;show(Aa lo i).small;rw[Az hi'];exact(f.o _ (List.getElem_mem hi')).1⟩
structure Kn(B:Nat)(W:World)(lt:List Ae)(lo:List Ab)(ta oa:Option Addr)(ca co:Nat):Prop where
 st:Hy W B (.slice ta lt.length ca) (.slice oa lo.length co) lt lo
 f:OZ lt lo
theorem Kn.below{B:Nat}{W W':World}{lt:List Ae}{lo:List Ab}{ta oa:Option Addr}{ca co:Nat}(h:Kn B W lt lo ta oa ca co)(hb:Below W W W'):Kn B W' lt lo ta oa ca co:=⟨h.st.below hb,h.f⟩
theorem Kn.cap{B:Nat}{W:World}{lt:List Ae}{lo:List Ab}{ta oa:Option Addr}{ca co:Nat}(h:Kn B W lt lo ta oa ca co):lo.length<=co:=(CZ h.st.o).1
def Vp(W:World)(E:Nat->Addr):Prop:=Kr W E/\WR W E/\Q6 W
theorem Vp.below{W W':World}{E:Nat->Addr}(h:Vp W E)(hb:Below W W W'):Vp W' E:=⟨h.1.below (by have:=h.2.1.2.2.2;omega) hb,h.2.1.below hb,h.2.2.below hb⟩
section
variable {B:Nat}{W:World}{lt:List Ae}{lo:List Ab}{ta oa:Option Addr}{ca co:Nat} (h:Kn B W lt lo ta oa ca co)
include h
theorem Kn.done{E:Nat->Addr}{s:Al}(hr:Xl E s)(hs:s.at W)(v:Vp W E):Calls prog 6 #[.agg #[.slice ta lt.length ca,.slice oa lo.length co],.agg s] W fun e w'=>aI (Bo ta ca oa co lt lo) s W e w':=
 (QX E (Bo ta ca oa co lt lo) s hr W (h.st.at h.f) hs h.cap h.f.wf v.1 v.2.1 v.2.2).mono fun _ _ d=>d.ans
theorem Kn.spec{s:Al}(hs:s.at W):Calls prog 7 #[.agg #[.slice ta lt.length ca,.slice oa lo.length co],.agg s] W fun e w'=>aE (Bo ta ca oa co lt lo) s W e w':=
 UD (Bo ta ca oa co lt lo) W (h.st.at h.f) (fun i hi=>(h.f.wf i hi).1) s hs
theorem Kn.obj{x:Int}(hx:(Lit.int .i64 x).wf=true):Calls prog 9 #[.agg #[.slice ta lt.length ca,.slice oa lo.length co],.int .i64 x] W fun e w'=>Ll (Bo ta ca oa co lt lo) x W w' e:=
 Iq (Bo ta ca oa co lt lo) x W (h.st.at h.f) (h.f.small ta oa ca co) h.cap h.f.wf hx
end
section
variable {ta oa ta1 oa1 ta2 oa2:Option Addr}{ca co ca1 co1 ca2 co2:Nat}{lt lt1 lt2:List Ae}{lo lo1 lo2:List Ab}{s:Al}{c:Int}{tx tx2:ByteArray}
theorem Sf(h:FM (Bo ta ca oa co lt lo) s c tx lt1 lo1)(ok:okL lt lo=false):c=1/\lt1=[]:=by
 rcases h with⟨_,e,_,e1,e2⟩|⟨e,_⟩
 ·exact⟨e,e1⟩
 ·rw[show Bj (Bo ta ca oa co lt lo)=false from ok]at e;cases e
end
variable {B:Nat}{w w':World}{t:Ae}
def Ji:Ae:=⟨0,0,⟨none,0,0,fun _=>0,fun _=>0⟩,0,⟨none,0,0,fun _=>0,fun _=>0⟩,⟨none,0,0,fun _=>0⟩,0⟩
theorem Wn(B:Nat)(w:World):Ji.new B w:=⟨⟨⟨Nat.zero_le _,fun h=>by simp[Ji]at h⟩,fun h=>by simp[Ji]at h⟩,⟨⟨Nat.zero_le _,fun h=>by simp[Ji]at h⟩,fun h=>by simp[Ji]at h⟩,⟨⟨Nat.zero_le _,fun h=>by simp[Ji]at h⟩,fun h=>by simp[Ji]at h⟩⟩
theorem Ro:Ji.apart:=fun _ _ _ h=>by simp[Ji]at h
theorem Ae.same.refl(t:Ae):t.same t:=⟨rfl,rfl,⟨rfl,rfl,rfl⟩,rfl,⟨rfl,rfl,rfl⟩,⟨rfl,rfl⟩,rfl⟩
def M9(k:Aw)(x:Int):Option Nat:=if Bj k=true then Bg (fun i=>(k.T i).id) k.tn x else none
def Hf(k:Aw)(x:Int):Ae:=match M9 k x with
 |some i=>k.T i
 |none=>Ji
theorem Ae.new.below(h:t.new B w)(hb:Below w w w'):t.new B w':=⟨h.1.below hb,h.2.1.below hb,h.2.2.below hb⟩
theorem Lh(tmps:Array Value)(W:World)(P:Nat)(x0 x1 x2 x3 x4 x5 x6:Value)(b:Bool)(h:Ag W P (.cells #[x0,x1,x2,x3,x4,x5,x6] 39))(h2:tmps[4]? =some (.pointer P))(h3:tmps[5]? =some (.bool b)):
 (results Tryz.f8 tmps).run prog W= .ok (.tuple #[.agg #[x0,x1,x2,x3,x4,x5,x6],.bool b]) W:=by
 obtain⟨z0,z1,z2,z3,z4,z5,z6⟩:=h.seven;simp[results,Tryz.results8,go_sem,h2,h3,z0,z1,z2,z3,z4,z5,z6]
def M5(k:Aw)(x:Int)(w w':World)(e:Ending):Prop:=∃g:Ae,e= .returned (.tuple #[g.val,.bool (M9 k x).isSome])/\(Hf k x).same g/\g.new w w'/\g.apart/\Below w w w'
theorem M5.none{k:Aw}{x:Int}(h:M9 k x= .none)(hb:Below w w w'):M5 k x w w' (.returned (.tuple #[.agg #[.int .i64 0,.int .i64 0,.slice .none 0 0,.int .i64 0,.slice .none 0 0,.slice .none 0 0,.int .i64 0],.bool false])):=
 ⟨Ji,by rw[h];rfl,by rw[Hf,h];exact Ae.same.refl _,Wn _ _,Ro,hb⟩
theorem Io(k:Aw)(x:Int)(w:World)(hk:k.at w)(hs:k.small)(hcap:k.on<=k.ok)(hw:∀i,i<k.on->(Lit.int .i64 (k.O i).id).wf=true/\(Lit.int .i64 (k.O i).up).wf=true):
 Calls prog 8 #[k.val,.int .i64 x] w fun e w'=>M5 k x w w' e:=by
 have n1:No (.cells #[.int .i64 0,.int .i64 0,.slice none 0 0,.int .i64 0,.slice none 0 0,.slice none 0 0,.int .i64 0] 39):=⟨⟩;have n2:No (.cells #[.slice k.ta k.tn k.tk,.slice k.oa k.on k.ok] 27):=⟨⟩;have b0:Below w w ((w.alloc n2).alloc n1):=(Bf w _).alloc (by simp) _;have A0:=(Ag.new w n2).alloc n1;have R0:Ag ((w.alloc n2).alloc n1) (w.heap.size+1) n1:=by
  have:=Ag.new (w.alloc n2) n1;simpa using this
 have HK:=hid hk;have HS:=hid hs;have C1:=hid (Hk k _ (hk.below b0) hcap hw);unfold Aw.val at C1;unfold Aw.val;obtain⟨x0,x1⟩:=A0.two;have ne1:¬w.heap.size=w.heap.size+1:=by omega
 have ne2:¬w.heap.size+1=w.heap.size:=by omega
 clear hk hs hw;go_enter func8,ntmps8
 go_wp2_with fail
 refine C1.out.mono ?_;rintro e w1 ⟨rfl,hb1⟩;have A1:=A0.below hb1;have R1:=R0.below hb1;have B1:=Af b0 hb1;clear x0 x1 C1 A0 R0 b0 hb1;obtain⟨x0,x1⟩:=A1.two;obtain⟨r0,r1,r2,r3,r4,r5,r6⟩:=R1.seven;have rf:=R1.jC;cases t:Bj k with
 |false=>
  have N:=hid (show M9 k x=none by simp[M9,t]);go_wp2;refine bodyPost_ret (Lh _ _ (w.heap.size+1) _ _ _ _ _ _ _ false (Ag.all7 R1 _ _ _ _ _ _ _) rfl rfl) rfl (M5.none N ?_);iterate 7 refine Below.setCell ?_ (by dsimp only;omega) _
  exact B1
 |true=>
  have TL:Hid (M9 k x=Bg (fun i=>(k.T i).id) k.tn x):=hid (by rw[M9,if_pos t]);have C2:=hid (IK k.ta k.tn k.tk k.T x w1 HK.out.1 (HK.out.below B1).2.2.1);obtain⟨tn1,_,_⟩:=Dn (show By k.tn k.T=true by simp only[Bj,Bool.and_eq_true]at t;exact t.1.1.1.1);clear t;go_wp2_with fail
  refine C2.out.mono ?_;rintro e w2 ⟨rfl,hb2⟩;have A2:=A1.below hb2;have R2:=R1.below hb2;have B2:=Af B1 hb2;clear x0 x1 r0 r1 r2 r3 r4 r5 r6 rf C2 A1 R1 B1 hb2;obtain⟨x0,x1⟩:=A2.two;obtain⟨r0,r1,r2,r3,r4,r5,r6⟩:=R2.seven;have rf:=R2.jC;cases hf:Bg (fun i=>(k.T i).id) k.tn x with
  |none=>
   rw[hf]at TL;have e3:Gf none= -1:=rfl;rw[e3];clear hf e3;go_wp2;refine bodyPost_ret (Lh _ _ (w.heap.size+1) _ _ _ _ _ _ _ false (Ag.all7 R2 _ _ _ _ _ _ _) rfl rfl) rfl (M5.none TL ?_);iterate 7 refine Below.setCell ?_ (by dsimp only;omega) _
   exact B2
  |some i=>
   have hi:=(Av hf).1;rw[hf]at TL;have e3:Gf (some i)=(i:Int):=rfl;rw[e3];have u0:¬(i:Int)<0:=(by omega);have u0':(0:Int)<=(i:Int):=(by omega);have u1:(i:Int)<(k.tn:Int):=(by omega);obtain⟨b,off,ea,_,hcc⟩:=(HK.out.below B2).2.2.1 (by omega);obtain⟨⟨q0,q1,q2,q3,q4,q5,q6⟩,ht⟩:=hcc i hi;rw[ea]at x0;have C3:=hid (Ly (k.T i) w2 ht (HS.out.1.2 i hi));unfold Ae.val at C3;clear hf e3 hcc ht ea;go_wp2_with fail
   refine C3.out.mono ?_;rintro e w3 ⟨g,rfl,sg,ng,ag,hb3⟩;have R3:=R2.below hb3;have B3:=Af B2 hb3;have NG:=hid (ng.low B2.size);have SG:=hid sg;have AG:=hid ag;clear x0 x1 r0 r1 r2 r3 r4 r5 r6 rf C3 A2 R2 B2 hb3 q0 q1 q2 q3 q4 q5 q6 sg ng ag;obtain⟨r0,r1,r2,r3,r4,r5,r6⟩:=R3.seven;have rf:=R3.jC;unfold Ar.val AJ.val;go_wp2;refine bodyPost_ret (Lh _ _ (w.heap.size+1) _ _ _ _ _ _ _ true (Ag.all7 R3 _ _ _ _ _ _ _) rfl rfl) rfl ⟨g,by rw[TL.out];rfl,by rw[Hf,TL.out];exact SG.out,⟨?_,?_,?_⟩,AG,?_⟩
   ·refine NG.out.1.of (by simp) (fun q hq hn'=>?_);have q2:=NG.out.1.ne R3 (by decide) q hq hn';iterate 7 rw[blk_setCell_other _ _ _ _ (by dsimp only;omega)]
   ·refine NG.out.2.1.of (by simp) (fun q hq hn'=>?_);have q2:=NG.out.2.1.ne R3 (by decide) q hq hn';iterate 7 rw[blk_setCell_other _ _ _ _ (by dsimp only;omega)]
   ·refine NG.out.2.2.of (by simp) (fun q hq hn'=>?_);have q2:=NG.out.2.2.ne R3 (by decide) q hq hn';iterate 7 rw[blk_setCell_other _ _ _ _ (by dsimp only;omega)]
   ·iterate 7 refine Below.setCell ?_ (by dsimp only;omega) _
    exact B3





structure Zv(X x:Ae)(s:Al)(lo:List Ab):Prop where
 id:x.id=X.id
 b2:x.b2=X.b2
 c2:x.c2=X.c2
 lab:s.kind≠12->x.b1=X.b1/\x.c1=X.c1
 up:s.kind=12->CY X.b1 X.c1 X.own x.b1 x.c1=true/\CY x.b1 x.c1 X.own X.b2 X.c2=true
 own:∀j,j<x.own.n->hasB X.own.n X.own.h (x.own.h j)=true∨s.kind=1∨(s.kind=13/\∃u,Gl lo s.id=some u/\hasB (Aa lo u).own.n (Aa lo u).own.h (x.own.h j)=true)
theorem NZ{n:Nat}{h:Nat->Int}{j:Nat}(hj:j<n):hasB n h (h j)=true:=Hb hj rfl
theorem UQ{n:Nat}{h:Nat->Int}{x:Int}(hx:x∈(List.range n).map h):hasB n h x=true:=by
 obtain⟨i,hi,e⟩:=List.mem_map.1 hx;exact Hb (List.mem_range.1 hi) e
theorem UV{L:List Int}{j:Nat}(h:j<L.length):AV L j∈L:=by
 unfold AV;rw[List.getD_eq_getElem?_getD,List.getElem?_eq_getElem h];exact List.getElem_mem h
theorem Fu{X:Ae}{s:Al}{lo:List Ab}(h:s.kind≠12):Zv X X s lo:=⟨rfl,rfl,rfl,fun _=>⟨rfl,rfl⟩,fun e=>absurd e h,fun _ hj=> .inl (NZ hj)⟩
theorem YV{X:Ae}{s:Al}{lt lt':List Ae}{lo lo':List Ab}{t:Nat}{tx:ByteArray}(ht:t<lt.length)(hX:X=lt[t])(p:FA X s lt lo t 0 tx lt' lo'):∃x,lt'=lt.set t x/\Zv X x s lo:=by
 have st:lt=lt.set t X:=by rw[hX];exact(List.set_getElem_self ht).symm
 cases p with
 |k1 h x e1 e2 p=>
  rcases p with⟨e,_⟩|⟨_,_,_,a,cc,rfl⟩
  ·cases e
  ·exact⟨_,e1,rfl,rfl,rfl,fun _=>⟨rfl,rfl⟩,fun e=>by omega,fun j _=> .inr (.inl h)⟩
 |k12 h x e1 e2 e3 p=>
  rcases p with⟨e,_⟩|⟨_,hr,d,sd,rfl⟩
  ·cases e
  ·unfold Ib at hr;simp only[Bool.and_eq_true]at hr;refine⟨_,e1,rfl,rfl,rfl,fun e=>absurd h e,fun _=>?_,fun j hj=> .inl (NZ hj)⟩;obtain⟨q1,q2,q3⟩:=sd;unfold CY;simp only[q1,q2,q3];exact hr
 |k14 h x e1 e2 e3 p=>
  rcases p with⟨e,_⟩|⟨_,_,a,cc,rfl⟩
  ·cases e
  ·exact⟨_,e1,rfl,rfl,rfl,fun _=>⟨rfl,rfl⟩,fun e=>by omega,fun j hj=> .inl (UQ (Rt (UV hj)))⟩
 |make h p=>
  rcases p with⟨e,_⟩|⟨e,_⟩|⟨_,_,_,_,e,_⟩
  ·cases e
  ·cases e
  ·exact⟨_,e,rfl,rfl,rfl,fun _=>⟨rfl,rfl⟩,fun e=>by omega,fun j hj=> .inl (NZ hj)⟩
 |drop h e1 e3 p=>exact⟨X,by rw[e1];exact st,Fu (by omega)⟩
 |k6 h p=>rcases p with⟨_,e,_⟩|⟨u,_,⟨_,e,_⟩|⟨_,_,_,e,_⟩⟩<;>first|(exact⟨X,by rw[e];exact st,Fu (by omega)⟩)|cases e
 |k7 h p=>rcases p with⟨_,e,_⟩|⟨u,_,_,_,e,_⟩<;>first|(exact⟨X,by rw[e];exact st,Fu (by omega)⟩)|cases e
 |k8 h p=>rcases p with⟨_,e,_⟩|⟨u,_,⟨_,e,_⟩|⟨q,_,⟨_,e,_⟩|⟨_,_,_,_,e,_⟩⟩⟩<;>first|(exact⟨X,by rw[e];exact st,Fu (by omega)⟩)|cases e
 |k9 h p=>rcases p with⟨_,e,_⟩|⟨u,_,⟨_,e,_⟩|⟨_,_,e,_⟩|⟨_,_,_,_,e,_⟩⟩<;>first|(exact⟨X,by rw[e];exact st,Fu (by omega)⟩)|cases e
 |k10 h p=>rcases p with⟨_,e,_⟩|⟨u,_,⟨_,e,_⟩|⟨_,_,e,_⟩|⟨_,_,_,_,e,_⟩⟩<;>first|(exact⟨X,by rw[e];exact st,Fu (by omega)⟩)|cases e
 |k13 h p=>
  rcases p with⟨_,e,_⟩|⟨u,hu,⟨_,e,_⟩|⟨_,_,e,_⟩|⟨_,_,_,_,a,c',e,_⟩⟩
  ·cases e
  ·cases e
  ·cases e
  ·refine⟨_,e,rfl,rfl,rfl,fun _=>⟨rfl,rfl⟩,fun e=>by omega,fun j hj=>?_⟩;rcases(Lz _ _).1 (UV hj)with hm|⟨i,hi,e⟩
   ·exact .inl (UQ hm)
   ·exact .inr (.inr ⟨h,u,(XL hu).2.1,Hb hi e.symm⟩)
 |k15 h p=>rcases p with⟨_,e,_⟩|⟨u,_,_,_,e,_⟩<;>first|(exact⟨X,by rw[e];exact st,Fu (by omega)⟩)|cases e
theorem Yz{L:List Ae}{t j:Nat}{x:Ae}(hj:j<L.length):Ao (L.set t x) j=if j=t then x else Ao L j:=QN hj
section
variable {ta oa ta' oa':Option Addr}{ca co ca' co':Nat}{lt lt':List Ae}{lo lo':List Ab}{s:Al}{tx:ByteArray}
theorem ae{lt:List Ae}{lo:List Ab}(ok:okL lt lo=true){i:Nat}(hi:i<lt.length):Qn lt (Ao lt i).id=some i:=by
 refine Hj (ids:=fun j=>(Ao lt j).id) hi rfl fun j hj e=>?_;have h:=Ij (Bm (k:=Bo none 0 none 0 lt lo) ok).1 j i hj hi;have e':(Ao lt j).id=(Ao lt i).id:=e;have h':(Ao lt j).id<(Ao lt i).id:=h;omega
end
theorem bG{lo:List Ab}{x:Int}{u:Nat}(h:Gl lo x=some u):u<lo.length:=(Gq h).1
section
variable {ta oa ta' oa':Option Addr}{ca co ca' co':Nat}{lt lt':List Ae}{lo lo':List Ab}{s:Al}{tx:ByteArray}
theorem Xf{lo:List Ab}(ok:okL lt lo=true){i:Nat}(hi:i<lo.length):Gl lo (Aa lo i).id=some i:=
 Dt (Bt.1 (show Bj (Bo none 0 none 0 lt lo)=true from ok)).rise hi
theorem Vf(ok:okL lt lo=true)(x:Int):IU (Bo ta ca oa co lt lo) x=Gl lo x:=by
 unfold IU;rw[if_pos (show Bj (Bo ta ca oa co lt lo)=true from ok)];rfl
theorem PR{x y:Ae}(h:x.same y)(f:JO x):JO y:=by
 obtain⟨a1,a2,⟨b1,b2,b3⟩,a4,⟨c1,c2,c3⟩,⟨d1,d2⟩,a7⟩:=h;have g:=Gw.2 f;refine Gw.1 ?_;unfold Ds at g ⊢;rw[a1,a2,b1,b2,b3,a4,c1,c2,c3,d1,d2,a7];exact g
end
theorem XG{X:Ae}{s:Al}{lt lt':List Ae}{lo lo':List Ab}{t:Nat}{c:Int}{tx:ByteArray}(p:FA X s lt lo t c tx lt' lo')(hk:s.kind=2∨s.kind=3∨s.kind=4∨s.kind=5):UT X s lt lo t c tx lt' lo':=by
 cases p<;>first|assumption|(exfalso;omega)
theorem Sn{o:Ab}:∀{a:List Ab},o∈Bn o a
 |[]=>List.mem_cons_self
 |y::a=>by
  unfold Bn;split
  ·exact List.mem_cons_self
  ·exact List.mem_cons_of_mem _ Sn
theorem Xk{lt:List Ae}{lo:List Ab}(ok:okL lt lo=true){t:Nat}(ht:t<lt.length):Gl lo (Aq (Ao lt t))=none:=by
 refine Jf fun j hj e=>?_;have kk:=Bt.1 (show Bj (Bo none 0 none 0 lt lo)=true from ok);have X:=Ef ok (Ao lt t) (by rw[Cy ht];exact List.getElem_mem ht);have i1:=X.id;have m1:=X.made;have e':(Aa lo j).id=Aq (Ao lt t):=e;have nc:Aq (Ao lt t)=1000*(Ao lt t).id+(Ao lt t).made+1:=rfl;by_cases h0:j=0
 ·subst h0;have:=(FF ok).2.1;omega
 ·obtain⟨t',h1,h2,h3,h4⟩:=EJ kk.thr (kk.num j (by omega) hj);have g1:(Ao lt t').id=(Aa lo j).id/1000:=h2;have g2:(Aa lo j).id%1000<=(Ao lt t').made:=h4;have e3:t'=t:=(Oj kk.thr).inj h1 ht (by show(Ao lt t').id=(Ao lt t).id;rw[g1,e'];omega);subst e3;rw[e']at g2;omega
structure UX(t u:Ae)(s:Al)(o pa:Ab)(tx:ByteArray):Prop where
 text:tx=⟨(Db (Aq t).toNat).toArray⟩
 up:o.up=s.id
 b1:o.b1=s.b1
 c1:s.c1.same o.c1
 made:u.made=t.made+1
 ch:Ap t pa.b1 pa.c1=true
 f1:CY t.b1 t.c1 t.own o.b1 o.c1=true
 f2:CY o.b1 o.c1 t.own t.b2 t.c2=true
 tF:JO t
 oF:Bb o.b1 o.c1.n o.c1.f o.c1.g=true
 uF:Bb pa.b1 pa.c1.n pa.c1.f pa.c1.g=true
 sn:s.c1.n<=12
section
variable {ta oa ta' oa':Option Addr}{ca co ca' co':Nat}{lt lt':List Ae}{lo lo':List Ab}{s:Al}{tx:ByteArray}
theorem Ql(h:FM (Bo ta ca oa co lt lo) s 0 tx lt' lo')(ok:okL lt lo=true)(hk:s.kind=2∨s.kind=3∨s.kind=4∨s.kind=5):
 ∃t u j,t<lt.length/\u<lo.length/\j<lo'.length/\M9 (Bo ta ca oa co lt lo) s.th=some t/\Gl lo s.id=some u/\(Aa lo' j).id=Aq (Ao lt t)/\
  M9 (Bo ta' ca' oa' co' lt' lo') s.th=some t/\UX (Ao lt t) (Ao lt' t) s (Aa lo' j) (Aa lo u) tx:=by
 have d:=Va ok h;have ok':=h.ok2 ok;obtain⟨so,t,ht,hat,p⟩:=Rf d;have ht':t<lt.length:=by simpa using ht
 have X:(lt.map Ae.nm)[t]=(Ao lt t).nm:=by rw[List.getElem_map,Cy ht']
 rw[X]at p;rw[Tb]at hat;have tid:(Ao lt t).id=s.th:=(Av hat).2;rcases XG p hk with⟨e,_⟩|⟨e,_⟩|⟨_,mb,m30,etx,elt,d1,d2,ow,e1,_,_,elo⟩
 ·cases e
 ·cases e
 ·unfold FU at mb;rw[Ky]at mb;cases hu:Gl lo s.id with
  |none=>rw[hu]at mb;cases mb
  |some u=>
   rw[hu]at mb;simp only[Bool.and_eq_true,It]at mb;have hul:=bG hu;obtain⟨j,hj,ej⟩:=List.mem_iff_getElem.1 (show newObj (Ao lt t).nm s d1 d2 ow∈lo'.map Ab.nm by rw[elo];exact Sn);have hj':j<lo'.length:=(by simpa using hj);have en:(Aa lo' j).nm=newObj (Ao lt t).nm s d1 d2 ow:=(by rw[Az hj',<-ej,List.getElem_map]);have len:lt'.length=lt.length:=(by simpa using congrArg List.length elt);have eu:(Ao lt' t).nm=⟨(Ao lt t).nm.id,(Ao lt t).nm.b1,(Ao lt t).nm.c1,(Ao lt t).nm.b2,(Ao lt t).nm.c2,(Ao lt t).nm.own,(Ao lt t).nm.made+1⟩:=by
    rw[<-YL,elt,Yz ht,if_pos rfl]
   have q0:(Aa lo' j).id=Aq (Ao lt t):=show(Aa lo' j).nm.id=_ by rw[en];rfl
   have q1:(Aa lo' j).up=s.id:=show(Aa lo' j).nm.up=_ by rw[en];rfl
   have q2:(Aa lo' j).b1=s.b1:=show(Aa lo' j).nm.b1=_ by rw[en];rfl
   have q3:(Aa lo' j).nm.c1=d1:=(by rw[en];rfl);have q4:s.c1.same (Aa lo' j).c1:=by
    obtain⟨f1,f2,f3⟩:=e1;rw[<-q3]at f1 f2 f3;exact⟨f1,f2,f3⟩
   have u1:(Ao lt' t).made=(Ao lt t).made+1:=show(Ao lt' t).nm.made=_ by rw[eu];rfl
   have u2:(Ao lt' t).id=(Ao lt t).id:=show(Ao lt' t).nm.id=_ by rw[eu];rfl
   have th2:Qn lt' s.th=some t:=by
    rw[<-tid,<-u2];exact ae ok' (by omega)
   refine⟨t,u,j,ht',hul,hj',?_,rfl,q0,?_,⟨etx,q1,q2,q4,u1,mb.1.1.1.2,?_,?_,?_,?_,?_,(BH (GB so).l1).2⟩⟩
   ·unfold M9;rw[if_pos (show Bj (Bo ta ca oa co lt lo)=true from ok)];exact hat
   ·unfold M9;rw[if_pos (show Bj (Bo ta' ca' oa' co' lt' lo')=true from ok')];exact th2
   ·have:=mb.1.1.2;obtain⟨f1,f2,f3⟩:=q4;unfold CY at this ⊢;rw[q2,f1,f2,f3];exact this
   ·have:=mb.1.2;obtain⟨f1,f2,f3⟩:=q4;unfold CY at this ⊢;rw[q2,f1,f2,f3];exact this
   ·exact Ef ok _ (by rw[Cy ht'];exact List.getElem_mem _)
   ·exact(Ed ok' (Aa lo' j) (by rw[Az hj'];exact List.getElem_mem _)).l1
   ·exact(Ed ok (Aa lo u) (by rw[Az hul];exact List.getElem_mem _)).l1
structure WJ(k k':Aw)(s:Al)(y:Int):Prop where
 lo:1001<=y
 hi:y<=9030
 now:(IU k' y).isSome=true
 was:(IU k y).isSome=false
 kid:hasB (D4 k' s.id).length (AV (D4 k' s.id)) y=true
theorem aG(h:FM (Bo ta ca oa co lt lo) s 0 tx lt' lo')(ok:okL lt lo=true)(hk:s.kind=2∨s.kind=3∨s.kind=4∨s.kind=5){t:Ae}(hT:(Hf (Bo ta ca oa co lt lo) s.th).same t):
 WJ (Bo ta ca oa co lt lo) (Bo ta' ca' oa' co' lt' lo') s (1000*t.id+t.made+1):=by
 obtain⟨T,u,j,h1,h2,h3,e1,e2,e3,_,q⟩:=Ql (ta':=ta') (ca':=ca') (oa':=oa') (co':=co') h ok hk;have ok':=h.ok2 ok;have et:Hf (Bo ta ca oa co lt lo) s.th=Ao lt T:=by
  unfold Hf;rw[e1];rfl
 rw[et]at hT;have en:1000*t.id+t.made+1=Aq (Ao lt T):=by
  obtain⟨t1,_,_,_,_,_,t7⟩:=hT;rw[t1,t7];rfl
 rw[en];have X:=q.tF;have i1:=X.id;have m1:=X.made;have nc:Aq (Ao lt T)=1000*(Ao lt T).id+(Ao lt T).made+1:=rfl;have now:IU (Bo ta' ca' oa' co' lt' lo') (Aq (Ao lt T))=some j:=by
  rw[Vf ok',<-e3];exact Xf ok' h3
 have ne:s.id≠0:=by
  have:=UY ok h2;have e:=(Av e2).2;have e':(Aa lo u).id=s.id:=e;omega
 have um:(Ao lt' T).made<=30:=by
  have hl:lt'.length=lt.length:=by
   obtain⟨_,t',ht',_,p⟩:=Rf (Va ok h);obtain⟨x,e,_⟩:=YV ht' rfl p;simpa using congrArg List.length e
  have:=(Ef ok' (Ao lt' T) (by rw[Cy (by omega)];exact List.getElem_mem _)).made;omega
 have:=q.made;refine⟨by omega,by omega,by rw[now];rfl,by rw[Vf ok,Xk ok h1];rfl,RY.2 ?_⟩;rw[Vt (show Bj (Bo ta' ca' oa' co' lt' lo')=true from ok') ne];unfold IW;refine List.mem_map.2 ⟨j,List.mem_filter.2 ⟨List.mem_range.2 h3,?_⟩,e3⟩;exact beq_iff_eq.2 q.up
theorem aJ(h:FM (Bo ta ca oa co lt lo) s 0 tx lt' lo')(ok:okL lt lo=true)(hk:s.kind=2∨s.kind=3∨s.kind=4∨s.kind=5){t:Ae}(hT:(Hf (Bo ta ca oa co lt lo) s.th).same t):JO t:=by
 obtain⟨T,u,j,h1,h2,h3,e1,e2,e3,_,q⟩:=Ql (ta':=none) (ca':=0) (oa':=none) (co':=0) h ok hk;have et:Hf (Bo ta ca oa co lt lo) s.th=Ao lt T:=by
  unfold Hf;rw[e1];rfl
 rw[et]at hT;exact PR hT q.tF
theorem aF(h:FM (Bo ta ca oa co lt lo) s 0 tx lt' lo')(ok:okL lt lo=true)(hk:s.kind=2∨s.kind=3∨s.kind=4∨s.kind=5){t u:Ae}{o up:Ab}(hT:(Hf (Bo ta ca oa co lt lo) s.th).same t)
 (hU:(Hf (Bo ta' ca' oa' co' lt' lo') s.th).same u)(hO:(JM (Bo ta' ca' oa' co' lt' lo') (1000*t.id+t.made+1)).same o)(hP:(JM (Bo ta ca oa co lt lo) s.id).same up):UX t u s o up tx:=by
 obtain⟨T,v,j,h1,h2,h3,e1,e2,e3,e4,q⟩:=Ql (ta':=ta') (ca':=ca') (oa':=oa') (co':=co') h ok hk;have ok':=h.ok2 ok;have et:Hf (Bo ta ca oa co lt lo) s.th=Ao lt T:=by
  unfold Hf;rw[e1];rfl
 have eu:Hf (Bo ta' ca' oa' co' lt' lo') s.th=Ao lt' T:=by
  unfold Hf;rw[e4];rfl
 rw[et]at hT;rw[eu]at hU;have en:1000*t.id+t.made+1=Aq (Ao lt T):=by
  obtain⟨t1,_,_,_,_,_,t7⟩:=hT;rw[t1,t7];rfl
 rw[en,<-e3,P6 ok' (Xf ok' h3)]at hO;rw[P6 ok e2]at hP;have tF:=PR hT q.tF;obtain⟨t1,t2,⟨t3,t4,t5⟩,t6,⟨t7,t8,t9⟩,⟨t10,t11⟩,t12⟩:=hT;obtain⟨_,_,_,_,_,_,u7⟩:=hU;obtain⟨_,_,o3,o4,⟨o5,o6,o7⟩,_⟩:=hO;obtain⟨_,_,_,p4,⟨p5,p6,p7⟩,_⟩:=hP;refine⟨?_,o3.trans q.up,o4.trans q.b1,⟨o5.trans q.c1.1,o6.trans q.c1.2.1,o7.trans q.c1.2.2⟩,by rw[u7,t12];exact q.made,?_,?_,?_,tF,?_,?_,q.sn⟩
 ·rw[q.text,<-en];rfl
 ·have:=q.ch;unfold Ap Gz at this ⊢;rw[p4,p5,p6,p7,t2,t3,t4,t5,t10,t11];exact this
 ·have:=q.f1;unfold CY at this ⊢;rw[o4,o5,o6,o7,t2,t3,t4,t5,t10,t11];exact this
 ·have:=q.f2;unfold CY at this ⊢;rw[o4,o5,o6,o7,t6,t7,t8,t9,t10,t11];exact this
 ·rw[o4,o5,o6,o7];exact q.oF
 ·rw[p4,p5,p6,p7];exact q.uF
end
theorem TZ(a:Option Addr)(n cap:Nat)(h:Nat->Int)(x:Int)(w:World)(hn:n<=maxLen)(hc:Be w a n h):
 Calls prog 11 #[.slice a n cap,.int .i64 x] w fun e w'=>e= .returned (.bool (hasB n h x))/\w'=w:=by
 unfold maxLen at hn;go_enter func11,ntmps11
 go_wp2;go_loop [5] (fun i=>∃k:Nat,k<=n/\i= .int .i64 k/\(∀j,j<k->h j≠x)) (fun i=>n-(intOf i).toNat)
 case atStart=>exact⟨0,Nat.zero_le _,rfl,fun j hj=>by omega⟩
 case round=>
  obtain⟨k,hk,rfl,hall⟩:=hrel;have HA:Hid (∀j,j<k->h j≠x):=hall;clear hall;by_cases hlt':k<n
  ·obtain⟨b,off,rfl,hlt,hcc⟩:=hc (by omega);have g1:=hcc k hlt';clear hcc hc;by_cases t:(h k==x)=true
   ·go_wp2;go_ret;exact⟨Ah (Hb hlt' (by simpa using t)).symm,rfl⟩
   ·have t':(h k==x)=false:=(by simpa using t);clear t;go_wp2;go_round;case rel=>
     refine⟨k+1,by omega,by go_num,fun j hj=>?_⟩;by_cases e:j=k
     ·subst e;simpa using t'
     ·exact HA.out j (by omega)
    case measure=>simp[intOf];omega
  ·clear hc;go_wp2;go_ret;have e:k=n:=(by omega);subst e;exact⟨Ah (MO HA).symm,rfl⟩
theorem WS(base:Int)(a1 a2:Option Addr)(n k1 k2:Nat)(f g:Nat->Int)(w:World)(hn:n<=1048576)(h1:AX w a1 n f g)(h2:AX w a2 n f g):
 Calls prog 10 #[.agg #[.int .i64 base,.slice a1 n k1],.agg #[.int .i64 base,.slice a2 n k2]] w fun e w'=>e= .returned (.bool true)/\Below w w w':=by
 have n1:No (.cells #[.int .i64 base,.slice a1 n k1] 30):=⟨⟩;have n2:No (.cells #[.int .i64 base,.slice a2 n k2] 30):=⟨⟩;have hb0:=((Below.refl _ w).alloc nr n1).alloc (by simp) n2;have H1:Hid (AX w a1 n f g):=h1;have H2:Hid (AX w a2 n f g):=h2;clear h1 h2;have A0:Ag ((w.alloc n1).alloc n2) w n1:=(Ag.new w _).alloc _;have B0:Ag ((w.alloc n1).alloc n2) (w.heap.size+1) n2:=by
  have:=Ag.new (w.alloc n1) n2;simpa using this
 go_enter func10,ntmps10
 go_wp2;generalize (w.alloc n1).alloc n2=W0 at *;go_loopw [5] (fun i wr=>∃k:Nat,k<=n/\i= .int .i64 k/\Below W0 W0 wr) (fun i _=>n-(intOf i).toNat)
 case atStart=>exact⟨0,Nat.zero_le _,rfl,Below.refl _ _⟩
 case round=>
  obtain⟨k,hk,rfl,hB⟩:=hrel;obtain⟨x1,x2⟩:=(A0.below hB).two;obtain⟨x3,x4⟩:=(B0.below hB).two;have Lw:Below w w wr:=hb0.trans (hB.mono hb0.size);by_cases hlt':k<n
  ·obtain⟨p1,o1,rfl,l1,c1⟩:=H1.out.below Lw (by omega);obtain⟨p2,o2,rfl,l2,c2⟩:=H2.out.below Lw (by omega);obtain⟨r1,r2⟩:=c1 k hlt';obtain⟨r3,r4⟩:=c2 k hlt';have i0:(0:Int)<=(k:Int):=(by omega);have i1:(k:Int)<(n:Int):=(by omega);clear c1 c2;go_wp2_with fail
   go_region_held3(fun w'=>w'.cell? ⟨w,1,none⟩=some (.slice (some ⟨p1,o1,none⟩) n k1)/\w'.cell? ⟨w.heap.size+1,1,none⟩=some (.slice (some ⟨p2,o2,none⟩) n k2)/\w'.cell? ⟨p1,o1+k*2,none⟩=some (.int .i64 (f k))/\w'.cell? ⟨p1,o1+k*2+1,none⟩=some (.int .i64 (g k))/\w'.cell? ⟨p2,o2+k*2,none⟩=some (.int .i64 (f k))/\w'.cell? ⟨p2,o2+k*2+1,none⟩=some (.int .i64 (g k))) (go_keep) (fail)
   go_wp2;go_roundw;case rel=>exact⟨k+1,by omega,by go_num,hB.drew⟩
   case measure=>simp[intOf];omega
  ·have i1:¬(k:Int)<(n:Int):=(by omega);go_wp2;go_ret;exact⟨rfl,Lw⟩
end Go.Proofs.YteoihknaljgocaaGreatDoor
