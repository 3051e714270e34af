import Derived.Lib.Bytealg
import Derived.Lib.IndexLaws
import Derived.Test.YtbdagpckhfcneaaGreatDoorNF4r
set_option maxRecDepth 100000
set_option maxHeartbeats 8000000
namespace Go.Proofs.YtbdagpckhfcneaaGreatDoor
open Go Go.RowKit Go.Deep Go.Maps Go.BigFrame Go.Shelf Go.Proofs.Tryz
variable {lt:List Ae}{lo:List Ab}
structure OV(lt:List Ae)(lo:List Ab):Prop where
 tn:1<=lt.length/\lt.length<=9
 on:1<=lo.length/\lo.length<=271
 t:∀x∈lt,x.small
 o:∀x∈lo,x.small/\(0<=x.id/\x.id<=1000000)/\QV x.up
theorem Sg(ok:okL lt lo=true):OV lt lo:=by
 refine⟨FG ok,Eb ok,fun x hx=>(Ez ok x hx).small,fun x hx=>?_⟩;have f:=DW ok x hx;have it:=KQ ok x hx;refine⟨⟨by have:=(BI f.l1).2;omega,by have:=Ga f.data;omega,⟨by omega,fun i hi=>by have:=Ga (it.2 i hi);omega⟩,by have:=I6 f.own;omega,by have:=(BI f.l2).2;omega⟩,Hj ok x hx,?_⟩;obtain⟨i,hi,e⟩:=List.mem_iff_getElem.1 hx;have e2:Aa lo i=x:=(Ap hi).trans e;by_cases h0:i=0
 ·subst h0;have:=(Gj ok).2.2;rw[e2]at this;rw[this];exact QV.of (by omega) (by omega)
 ·obtain⟨p,p1,p2,_⟩:=(Bs.1 ok).box i (by omega) hi;have p3:(Aa lo p).id=(Aa lo i).up:=p2;have hp:p<lo.length:=p1;have:=Hj ok _ (List.getElem_mem hp);rw[e2,Ap hp]at p3;rw[<-p3];exact QV.of (by omega) (by omega)
theorem I7.F(h:I7 lt lo):OV lt lo:=by
 cases h with
 |right h=>exact Sg h
 |up h u o d hu ho hd=>
  have f:=Sg h;refine⟨f.tn,by simpa using f.on,f.t,fun x hx=>?_⟩;rcases D4 hx with rfl|hx
  ·have:=f.o _ (List.getElem_mem hu);rw[<-ho]at this;exact⟨this.1,this.2.1,hd⟩
  ·exact f.o x hx
 |kind h u o d hu ho hd=>
  have f:=Sg h;refine⟨f.tn,by simpa using f.on,f.t,fun x hx=>?_⟩;rcases D4 hx with rfl|hx
  ·have:=f.o _ (List.getElem_mem hu);rw[<-ho]at this;exact this
  ·exact f.o x hx
 |made h X d ht hX hd=>
  have f:=Sg h;refine⟨by simpa using f.tn,f.on,fun x hx=>?_,f.o⟩;rcases D4 hx with rfl|hx
  ·have:=f.t _ (List.getElem_mem ht);rw[<-hX]at this;exact this
  ·exact f.t x hx
theorem OV.data(h:OV lt lo):∀x∈lo,x.data.size<=maxLen:=fun x hx=>by
 have:=(h.o x hx).1.2.1;unfold maxLen;omega
theorem Ze(a:Option Addr)(n cap:Nat)(w:World):Calls prog 7 #[.slice a n cap] w fun e w'=>e= .returned (.bool (decide (1048576<n)))/\w'=w:=by
 go_enter func7,ntmps7
 go_wp2;go_ret;refine⟨Ah ?_,rfl⟩;congr 1;apply propext;omega
theorem I7.S{lt:List Ae}{lo:List Ab}(h:I7 lt lo):Wp lt lo:=by
 cases h with
 |right h=>exact Wp.of h
 |up h u o d hu ho hd=>
  have f:=Wp.of h;refine⟨f.tn,by simpa using f.on,fun x hx=>?_,fun x hx=>?_,f.thr⟩
  ·rcases D4 hx with rfl|hx
   ·have t:=f.data _ (List.getElem_mem hu);rw[<-ho]at t;exact t
   ·exact f.data x hx
  ·rcases D4 hx with rfl|hx
   ·have t:=f.id _ (List.getElem_mem hu);rw[<-ho]at t;exact t
   ·exact f.id x hx
 |kind h u o d hu ho hd=>
  have f:=Wp.of h;refine⟨f.tn,by simpa using f.on,fun x hx=>?_,fun x hx=>?_,f.thr⟩
  ·rcases D4 hx with rfl|hx
   ·have t:=f.data _ (List.getElem_mem hu);rw[<-ho]at t;exact t
   ·exact f.data x hx
  ·rcases D4 hx with rfl|hx
   ·have t:=f.id _ (List.getElem_mem hu);rw[<-ho]at t;exact t
   ·exact f.id x hx
 |made h X d ht hX hd=>
  have f:=Wp.of h;refine⟨by simpa using f.tn,f.on,f.data,f.id,fun x hx=>?_⟩;rcases D4 hx with rfl|hx
  ·have t:=f.thr _ (List.getElem_mem ht);rw[<-hX]at t;exact t
  ·exact f.thr x hx
variable {P:Nat}{w w':World}{s:Al}
theorem OY(tmps:Array Value)(W:World)(P Q:Nat)(x y x0 x1 x2 x3 x4 x5 x6 x7 x8 x9:Value)(h:Ag W P (.cells #[x,y] 27))(h':Ag W Q (.cells #[x0,x1,x2,x3,x4,x5,x6,x7,x8,x9] 32))(h2:tmps[2]? =some (.pointer P))(h3:tmps[3]? =some (.pointer Q)):
 (results Tryz.f8 tmps).run prog W= .ok (.tuple #[.agg #[x,y],.agg #[x0,x1,x2,x3,x4,x5,x6,x7,x8,x9]]) W:=by
 obtain⟨y0,y1⟩:=h.two;obtain⟨z0,z1,z2,z3,z4,z5,z6,z7,z8,z9⟩:=h'.jE;simp[results,Tryz.results8,go_sem,h2,h3,y0,y1,z0,z1,z2,z3,z4,z5,z6,z7,z8,z9]
theorem Tp{W:World}{Q:Nat}{o:Obj}(h:Ag W P o)(hne:Q≠P)(x0 x1 x2 x3 x4 x5 x6 x7 x8 x9:Value):Ag ((((((((((W.setCell ⟨Q,0,none⟩ x0).setCell ⟨Q,1,none⟩ x1).setCell ⟨Q,2,none⟩ x2).setCell ⟨Q,3,none⟩ x3).setCell ⟨Q,4,none⟩ x4).setCell ⟨Q,5,none⟩ x5).setCell ⟨Q,6,none⟩ x6).setCell ⟨Q,7,none⟩ x7).setCell ⟨Q,8,none⟩ x8).setCell ⟨Q,9,none⟩ x9) P o:=
 (((((((((h.other hne _).other hne _).other hne _).other hne _).other hne _).other hne _).other hne _).other hne _).other hne _).other hne _
theorem UX{B:Nat}{vt vo:Value}{lt:List Ae}{lo:List Ab}{y0 y1 y2 y3 y4 y5 y6 y7 y8 y9:Value}(h:Bz w B vt vo lt lo)(hb:Ag w P (.cells #[y0,y1,y2,y3,y4,y5,y6,y7,y8,y9] 32))(x0 x1 x2 x3 x4 x5 x6 x7 x8 x9:Value):Bz ((((((((((w.setCell ⟨P,0,none⟩ x0).setCell ⟨P,1,none⟩ x1).setCell ⟨P,2,none⟩ x2).setCell ⟨P,3,none⟩ x3).setCell ⟨P,4,none⟩ x4).setCell ⟨P,5,none⟩ x5).setCell ⟨P,6,none⟩ x6).setCell ⟨P,7,none⟩ x7).setCell ⟨P,8,none⟩ x8).setCell ⟨P,9,none⟩ x9) B vt vo lt lo:=by
 have h0:=hb.jB (i:=0) x0;have h1:=h0.jB (i:=1) x1;have h2:=h1.jB (i:=2) x2;have h3:=h2.jB (i:=3) x3;have h4:=h3.jB (i:=4) x4;have h5:=h4.jB (i:=5) x5;have h6:=h5.jB (i:=6) x6;have h7:=h6.jB (i:=7) x7;have h8:=h7.jB (i:=8) x8;exact(((((((((h.set hb (.inr rfl) x0).set h0 (.inr rfl) x1).set h1 (.inr rfl) x2).set h2 (.inr rfl) x3).set h3 (.inr rfl) x4).set h4 (.inr rfl) x5).set h5 (.inr rfl) x6).set h6 (.inr rfl) x7).set h7 (.inr rfl) x8).set h8 (.inr rfl) x9
def Al.own(s:Al)(w:World):Prop:=s.c1.new 0 w/\s.c2.new 0 w/\s.data.size<=100/\0<=s.id/\s.id<=1000000
theorem Al.own.at(h:s.own w):s.at w:=⟨h.1.1,h.2.1.1,Nat.le_trans h.2.2.1 (by unfold maxLen;omega)⟩
theorem Al.own.keeps(h:s.own w)(k:Ef w w'):s.own w':=⟨h.1.keeps k,h.2.1.keeps k,h.2.2⟩
theorem Al.own.below(h:s.own w)(k:Below w w w'):s.own w':=⟨h.1.below k,h.2.1.below k,h.2.2⟩
theorem Qh(a:Option Addr)(n cap:Nat)(w:World)(hn:n<=1048576)(hb:BytesAt w a n):
 Calls prog 8 #[.slice a n cap] w fun e w'=>∃(lt:List Ae) (lo:List Ab) (g ca q co:Nat) (s:Al),e= .returned (.tuple #[.agg #[.slice g lt.length ca,.slice q lo.length co],.agg s])/\Bz w' w (.slice g lt.length ca) (.slice q lo.length co) lt lo/\I7 lt lo/\s.own w'/\Below w w w':=by
 have n1:No (.cells #[.int .i64 0,.int .i64 0,.int .i64 0,.int .i64 0,.int .i64 0,.string (ByteArray.mk #[]),.int .i64 0,.slice none 0 0,.int .i64 0,.slice none 0 0] 32):=⟨⟩;have n5:No (.cells #[.slice none 0 0,.slice none 0 0] 27):=⟨⟩;have v0:((w.alloc n5).alloc n1).heap.size=w.heap.size+2:=by simp
 have R0:Hid (Ag ((w.alloc n5).alloc n1) w n5):=hid ((Ag.new w _).alloc _);have S0:Hid (Ag ((w.alloc n5).alloc n1) (w.heap.size+1) n1):=hid (by have:=Ag.new (w.alloc n5) n1;simpa using this);have B0:Hid (Below w w ((w.alloc n5).alloc n1)):=hid ((Bd w _).alloc (by simp) _);have HB:=hid (hb.below B0);clear hb;go_enter func8,ntmps8
 go_wp2_with fail
 generalize ((w.alloc n5).alloc n1)=V at *;refine(Ud a n cap V hn HB).mono ?_;rintro e w1 ⟨rb,rfl,r1⟩;have R1:=hid r1;have l1:=r1.lt;have le1:=r1.le;clear r1;go_wp2_with fail
 refine(QM V rb a n cap w1 R1).mono ?_;rintro e w2 ⟨lt,lo,g,ca,q,co,rfl,ks,kd,r2,g2⟩;have KD:=hid kd;have n2:Na #[.slice g lt.length ca,.slice q lo.length co]:=⟨⟩;have K3:=hid (ks.below (Bd w2 (.cells n2 27)));have C3:=hid (Ag.new w2 (.cells n2 27));have R3:=hid (r2.below (Bd w2 (.cells n2 27)));have c2:w.heap.size+1<w2.heap.size:=by have:=g2.size;omega
 have c3:rb<w2.heap.size:=by have:=g2.size;omega
 clear r2 ks kd g2 R1;go_wp2_with fail
 generalize w2.alloc (.cells n2 27)=W3 at *;generalize w2.heap.size=C at *;have n3:Nv (.slice g lt.length ca):=⟨⟩;have n4:Nv (.slice q lo.length co):=⟨⟩;have DR:Hid (Bz W3.drew w1 n3 n4 lt lo/\Ag W3.drew C (.cells n2 27)):=hid ⟨K3.out.below (Az (Below.refl _ W3)),C3.out.below (Az (Below.refl _ W3))⟩;have E1:Hid (∀args w,(callFunc 26 args).run prog w= .ok (.enter 26 args) w):=hid (enters_of func26 (by kernel_rfl) rfl);have FI:Hid (Calls prog 26 #[.pointer rb,.agg n2] W3.drew fun e w'=>∃v,e= .returned v/\(∃s:Al,v= .agg s/\s.own w'/\Bz w' w1 n3 n4 lt lo/\Ag w' C (.cells n2 27)/\Ag w' w n5/\Ag w' (w.heap.size+1) n1/\Below w w w')):=hid (by
  have rd:=R3.out.drew;refine(NF V rb a n cap W3.drew rd lt lo g ca q co w1 DR.out.1 l1 KD.out.S).mono ?_;rintro e w' ⟨s,e1,hs,r,g'⟩;exact⟨_,e1,s,rfl,hs,DR.out.1.jX g' l1,DR.out.2.grown g' (by simp;omega),R0.out.below r.E,S0.out.below r.E,Af B0 r.E⟩)
 refine Am 5 (fun W=>Bz W w1 n3 n4 lt lo/\Ag W C (.cells n2 27)) (by kernel_rfl) ?_;refine tr 0 10 (.agg n2) DR ?_ (hy:=fun W h=>by obtain⟨z0,z1⟩:=h.2.two;go_simp);refine tr 1 11 (.pointer rb) DR ?_;refine tr 2 12 (.agg n2) DR ?_ (hy:=fun W h=>by obtain⟨z0,z1⟩:=h.2.two;go_simp);generalize W3.drew=WD at *;refine Ac (i:=3) (by kernel_rfl) rfl ?_;intro K hK;refine AJ (by rfl) 26 _ _ _ (by rfl) E1 _ _ (by rfl) (by rfl) (some 13) (by rfl) _ FI ?_;rintro v w4 ⟨s,rfl,hs,hk,hC,hR,hS,hB⟩;have KX:=hid hk;have RX:=hid hR;have SX:=hid hS;have BX:=hid hB;have HX:=hid hs;have CX:=hid hC;refine hK _ _ (fun _=>⟨KX,hC⟩) ?_;clear hK K hS hR hB hs hk hC;simp only[ap,List.set];obtain⟨r0,r1⟩:=RX.out.two;have rf:=RX.out.jC;refine Ac (i:=4) (by kernel_rfl) rfl ?_;intro K hK;go_simp;have cne:w.heap.size≠C:=by omega
 refine hK _ _ (fun _=>⟨(KX.out.set RX (.inl rfl) _).set (RX.out.jB (i:=0) _) (.inl rfl) _,(CX.out.other cne _).other cne _⟩) ?_;clear hK K r0 r1 rf;try simp only[ap,List.set]
 have ne:w.heap.size≠w.heap.size+1:=by omega
 have S4:=hid ((SX.out.other (i:=0) ne n3).other (i:=1) ne n4);have R4:=hid ((RX.out.jB (i:=0) n3).jB (i:=1) n4);have K4:=hid ((KX.out.set RX (.inl rfl) (i:=0) n3).set (RX.out.jB (i:=0) _) (.inl rfl) (i:=1) n4);have B4:Hid (Below w w ((w4.setCell ⟨w,0,none⟩ n3).setCell ⟨w,1,none⟩ n4)):=hid ((BX.out.setCell nr _).setCell nr _);have H4:=hid ((HX.out.keeps (As (i:=0) RX (by decide) n3)).keeps (As (i:=1) (RX.out.jB (i:=0) _) (by decide) n4));clear SX RX KX BX HX;generalize (w4.setCell ⟨w,0,none⟩ n3).setCell ⟨w,1,none⟩ n4=w5 at *;obtain⟨s0,s1,s2,s3,s4,s5,s6,s7,s8,s9⟩:=S4.out.jE;have sf:=S4.out.jC;refine Ac (i:=5) (by kernel_rfl) rfl ?_;intro K hK;go_simp;refine hK _ _ (fun h=>absurd h (by decide)) ?_;clear hK K s0 s1 s2 s3 s4 s5 s6 s7 s8 s9 sf;refine Aj (by kernel_rfl) ?_ _;go_wp2;have n6:Nv (.slice s.c1.a s.c1.n s.c1.k):=⟨⟩;have n7:Nv (.slice s.c2.a s.c2.n s.c2.k):=⟨⟩;refine bodyPost_ret (OY _ _ w (w.heap.size+1) _ _ _ _ _ _ _ _ _ _ _ _ (Tp R4 (Ne.symm ne) (.int .i64 s.th) (.int .i64 s.kind) (.int .i64 s.id) (.int .i64 s.to) (.int .i64 s.cat) (.string s.data) (.int .i64 s.b1) n6 (.int .i64 s.b2) n7) (Lf S4 (.int .i64 s.th) (.int .i64 s.kind) (.int .i64 s.id) (.int .i64 s.to) (.int .i64 s.cat) (.string s.data) (.int .i64 s.b1) n6 (.int .i64 s.b2) n7) rfl rfl) rfl ⟨lt,lo,g,ca,q,co,s,rfl,?_,KD,?_,?_⟩
 ·exact UX (K4.out.base (by omega)) S4 (.int .i64 s.th) (.int .i64 s.kind) (.int .i64 s.id) (.int .i64 s.to) (.int .i64 s.cat) (.string s.data) (.int .i64 s.b1) n6 (.int .i64 s.b2) n7
 ·exact H4.out.keeps (IG S4 (by decide) (.int .i64 s.th) (.int .i64 s.kind) (.int .i64 s.id) (.int .i64 s.to) (.int .i64 s.cat) (.string s.data) (.int .i64 s.b1) n6 (.int .i64 s.b2) n7)
 ·exact Zu B4 (by omega) (.int .i64 s.th) (.int .i64 s.kind) (.int .i64 s.id) (.int .i64 s.to) (.int .i64 s.cat) (.string s.data) (.int .i64 s.b1) n6 (.int .i64 s.b2) n7
theorem aV{x:Int}(h:QV x):(Lit.int .i64 x).wf=true:=by
 have e1:IntKind.i64.min= -9223372036854775808:=by decide
 have e2:IntKind.i64.max=9223372036854775807:=by decide
 simp[Lit.wf,e1,e2];unfold QV at h;omega
theorem He.at{w:World}{B ca co:Nat}{ta oa:Option Addr}{lt:List Ae}{lo:List Ab}(h:He w B (.slice ta lt.length ca) (.slice oa lo.length co) lt lo)(f:OV lt lo):(BQ ta ca oa co lt lo).at w:=
 ⟨Nat.le_trans f.tn.2 (by unfold maxLen;omega),Nat.le_trans f.on.2 (by unfold maxLen;omega),h.t.lies (fun x hx=>(h.tn x hx).at),h.o.lies (fun x hx=>(h.on x hx).at (f.data x hx))⟩
theorem OV.wf{lt:List Ae}{lo:List Ab}(f:OV lt lo):∀i,i<lo.length->(Lit.int .i64 (Aa lo i).id).wf=true/\(Lit.int .i64 (Aa lo i).up).wf=true:=fun i hi=>by
 have h:=f.o _ (List.getElem_mem hi);rw[Ap hi];exact⟨MW h.2.1,aV h.2.2⟩
theorem OV.small{lt:List Ae}{lo:List Ab}(f:OV lt lo)(ta oa:Option Addr)(ca co:Nat):(BQ ta ca oa co lt lo).small:=⟨⟨by show lt.length<=1048576;have:=f.tn.2;omega,fun i hi=>by
 have hi':i<lt.length:=hi;show(AY lt i).small;rw[Df hi'];exact f.t _ (List.getElem_mem hi')⟩,by show lo.length<=1048576;have:=f.on.2;omega,fun i hi=>by
 have hi':i<lo.length:=hi;show(Aa lo i).small;rw[Ap hi'];exact(f.o _ (List.getElem_mem hi')).1⟩
structure Kn(B:Nat)(W:World)(lt:List Ae)(lo:List Ab)(ta oa:Option Addr)(ca co:Nat):Prop where
 st:He W B (.slice ta lt.length ca) (.slice oa lo.length co) lt lo
 f:OV lt lo
theorem Kn.below{B:Nat}{W W':World}{lt:List Ae}{lo:List Ab}{ta oa:Option Addr}{ca co:Nat}(h:Kn B W lt lo ta oa ca co)(hb:Below W W W'):Kn B W' lt lo ta oa ca co:=⟨h.st.below hb,h.f⟩
theorem Kn.cap{B:Nat}{W:World}{lt:List Ae}{lo:List Ab}{ta oa:Option Addr}{ca co:Nat}(h:Kn B W lt lo ta oa ca co):lo.length<=co:=(Dj h.st.o).1
def VO(W:World)(E:Nat->Addr):Prop:=JX W E/\Xk W E/\QU W
theorem VO.below{W W':World}{E:Nat->Addr}(h:VO W E)(hb:Below W W W'):VO W' E:=⟨h.1.below (by have:=h.2.1.2.2.2;omega) hb,h.2.1.below hb,h.2.2.below hb⟩
section
variable {B:Nat}{W:World}{lt:List Ae}{lo:List Ab}{ta oa:Option Addr}{ca co:Nat} (h:Kn B W lt lo ta oa ca co)
include h
theorem Kn.done{E:Nat->Addr}{s:Al}(hr:X4 E s)(hs:s.at W)(v:VO W E):Calls prog 9 #[.agg #[.slice ta lt.length ca,.slice oa lo.length co],.agg s] W fun e w'=>ah (BQ ta ca oa co lt lo) s W e w':=
 (Qq E (BQ ta ca oa co lt lo) s hr W (h.st.at h.f) hs h.cap h.f.wf v.1 v.2.1 v.2.2).mono fun _ _ d=>d.ans
theorem Kn.spec{s:Al}(hs:s.at W):Calls prog 10 #[.agg #[.slice ta lt.length ca,.slice oa lo.length co],.agg s] W fun e w'=>ZX (BQ ta ca oa co lt lo) s W e w':=
 Tt (BQ ta ca oa co lt lo) W (h.st.at h.f) (fun i hi=>(h.f.wf i hi).1) s hs
theorem Kn.obj{x:Int}(hx:(Lit.int .i64 x).wf=true):Calls prog 15 #[.agg #[.slice ta lt.length ca,.slice oa lo.length co],.int .i64 x] W fun e w'=>Li (BQ ta ca oa co lt lo) x W w' e:=
 Ht (BQ ta ca oa co lt lo) x W (h.st.at h.f) (h.f.small ta oa ca co) h.cap h.f.wf hx
end
section
variable {ta oa ta1 oa1 ta2 oa2:Option Addr}{ca co ca1 co1 ca2 co2:Nat}{lt lt1 lt2:List Ae}{lo lo1 lo2:List Ab}{s:Al}{c:Int}{tx tx2:ByteArray}
theorem RI(h:FA (BQ ta ca oa co lt lo) s c tx lt1 lo1)(ok:okL lt lo=false):c=1/\lt1=[]:=by
 rcases h with⟨_,e,_,e1,e2⟩|⟨e,_⟩
 ·exact⟨e,e1⟩
 ·rw[show Bl (BQ ta ca oa co lt lo)=false from ok]at e;cases e
end
variable {B:Nat}{w w':World}{t:Ae}
def I5:Ae:=⟨0,0,⟨none,0,0,fun _=>0,fun _=>0⟩,0,⟨none,0,0,fun _=>0,fun _=>0⟩,⟨none,0,0,fun _=>0⟩,0⟩
theorem VZ(B:Nat)(w:World):I5.new B w:=⟨⟨⟨Nat.zero_le _,fun h=>by simp[I5]at h⟩,fun h=>by simp[I5]at h⟩,⟨⟨Nat.zero_le _,fun h=>by simp[I5]at h⟩,fun h=>by simp[I5]at h⟩,⟨⟨Nat.zero_le _,fun h=>by simp[I5]at h⟩,fun h=>by simp[I5]at h⟩⟩
theorem Sp:I5.apart:=fun _ _ _ h=>by simp[I5]at h
theorem Ae.same.refl(t:Ae):t.same t:=⟨rfl,rfl,⟨rfl,rfl,rfl⟩,rfl,⟨rfl,rfl,rfl⟩,⟨rfl,rfl⟩,rfl⟩
def Ou(k:AF)(x:Int):Option Nat:=if Bl k=true then Bh (fun i=>(k.T i).id) k.tn x else none
def Jr(k:AF)(x:Int):Ae:=match Ou k x with
 |some i=>k.T i
 |none=>I5
theorem Ae.new.below(h:t.new B w)(hb:Below w w w'):t.new B w':=⟨h.1.below hb,h.2.1.below hb,h.2.2.below hb⟩
theorem Gw(tmps:Array Value)(W:World)(P:Nat)(x0 x1 x2 x3 x4 x5 x6:Value)(b:Bool)(h:Ag W P (.cells #[x0,x1,x2,x3,x4,x5,x6] 42))(h2:tmps[4]? =some (.pointer P))(h3:tmps[5]? =some (.bool b)):
 (results Tryz.f14 tmps).run prog W= .ok (.tuple #[.agg #[x0,x1,x2,x3,x4,x5,x6],.bool b]) W:=by
 obtain⟨z0,z1,z2,z3,z4,z5,z6⟩:=h.seven;simp[results,Tryz.results14,go_sem,h2,h3,z0,z1,z2,z3,z4,z5,z6]
def Nj(k:AF)(x:Int)(w w':World)(e:Ending):Prop:=∃g:Ae,e= .returned (.tuple #[g.val,.bool (Ou k x).isSome])/\(Jr k x).same g/\g.new w w'/\g.apart/\Below w w w'
theorem Nj.none{k:AF}{x:Int}(h:Ou k x= .none)(hb:Below w w w'):Nj k x w w' (.returned (.tuple #[.agg #[.int .i64 0,.int .i64 0,.slice .none 0 0,.int .i64 0,.slice .none 0 0,.slice .none 0 0,.int .i64 0],.bool false])):=
 ⟨I5,by rw[h];rfl,by rw[Jr,h];exact Ae.same.refl _,VZ _ _,Sp,hb⟩
theorem KH(k:AF)(x:Int)(w:World)(hk:k.at w)(hs:k.small)(hcap:k.on<=k.ok)(hw:∀i,i<k.on->(Lit.int .i64 (k.O i).id).wf=true/\(Lit.int .i64 (k.O i).up).wf=true):
 Calls prog 14 #[k.val,.int .i64 x] w fun e w'=>Nj k x w w' e:=by
 have n1:No (.cells #[.int .i64 0,.int .i64 0,.slice none 0 0,.int .i64 0,.slice none 0 0,.slice none 0 0,.int .i64 0] 42):=⟨⟩;have n2:No (.cells #[.slice k.ta k.tn k.tk,.slice k.oa k.on k.ok] 27):=⟨⟩;have b0:Below w w ((w.alloc n2).alloc n1):=(Bd w _).alloc (by simp) _;have A0:=(Ag.new w n2).alloc n1;have R0:Ag ((w.alloc n2).alloc n1) (w.heap.size+1) n1:=by
  have:=Ag.new (w.alloc n2) n1;simpa using this
 have HK:=hid hk;have HS:=hid hs;have C1:=hid (IE k _ (hk.below b0) hcap hw);unfold AF.val at C1;unfold AF.val;obtain⟨x0,x1⟩:=A0.two;have ne1:¬w.heap.size=w.heap.size+1:=by omega
 have ne2:¬w.heap.size+1=w.heap.size:=by omega
 clear hk hs hw;go_enter func14,ntmps14
 go_wp2_with fail
 refine C1.out.mono ?_;rintro e w1 ⟨rfl,hb1⟩;have A1:=A0.below hb1;have R1:=R0.below hb1;have B1:=Af b0 hb1;clear x0 x1 C1 A0 R0 b0 hb1;obtain⟨x0,x1⟩:=A1.two;obtain⟨r0,r1,r2,r3,r4,r5,r6⟩:=R1.seven;have rf:=R1.jC;cases t:Bl k with
 |false=>
  have N:=hid (show Ou k x=none by simp[Ou,t]);go_wp2;refine bodyPost_ret (Gw _ _ (w.heap.size+1) _ _ _ _ _ _ _ false (Ag.all7 R1 _ _ _ _ _ _ _) rfl rfl) rfl (Nj.none N ?_);iterate 7 refine Below.setCell ?_ (by dsimp only;omega) _
  exact B1
 |true=>
  have TL:Hid (Ou k x=Bh (fun i=>(k.T i).id) k.tn x):=hid (by rw[Ou,if_pos t]);have C2:=hid (Ip k.ta k.tn k.tk k.T x w1 HK.out.1 (HK.out.below B1).2.2.1);obtain⟨tn1,_,_⟩:=Dh (show Br k.tn k.T=true by simp only[Bl,Bool.and_eq_true]at t;exact t.1.1.1.1);clear t;go_wp2_with fail
  refine C2.out.mono ?_;rintro e w2 ⟨rfl,hb2⟩;have A2:=A1.below hb2;have R2:=R1.below hb2;have B2:=Af B1 hb2;clear x0 x1 r0 r1 r2 r3 r4 r5 r6 rf C2 A1 R1 B1 hb2;obtain⟨x0,x1⟩:=A2.two;obtain⟨r0,r1,r2,r3,r4,r5,r6⟩:=R2.seven;have rf:=R2.jC;cases hf:Bh (fun i=>(k.T i).id) k.tn x with
  |none=>
   rw[hf]at TL;have e3:FX none= -1:=rfl;rw[e3];clear hf e3;go_wp2;refine bodyPost_ret (Gw _ _ (w.heap.size+1) _ _ _ _ _ _ _ false (Ag.all7 R2 _ _ _ _ _ _ _) rfl rfl) rfl (Nj.none TL ?_);iterate 7 refine Below.setCell ?_ (by dsimp only;omega) _
   exact B2
  |some i=>
   have hi:=(Ay hf).1;rw[hf]at TL;have e3:FX (some i)=(i:Int):=rfl;rw[e3];have u0:¬(i:Int)<0:=(by omega);have u0':(0:Int)<=(i:Int):=(by omega);have u1:(i:Int)<(k.tn:Int):=(by omega);obtain⟨b,off,ea,_,hcc⟩:=(HK.out.below B2).2.2.1 (by omega);obtain⟨⟨q0,q1,q2,q3,q4,q5,q6⟩,ht⟩:=hcc i hi;rw[ea]at x0;have C3:=hid (Lg (k.T i) w2 ht (HS.out.1.2 i hi));unfold Ae.val at C3;clear hf e3 hcc ht ea;go_wp2_with fail
   refine C3.out.mono ?_;rintro e w3 ⟨g,rfl,sg,ng,ag,hb3⟩;have R3:=R2.below hb3;have B3:=Af B2 hb3;have NG:=hid (ng.low B2.size);have SG:=hid sg;have AG:=hid ag;clear x0 x1 r0 r1 r2 r3 r4 r5 r6 rf C3 A2 R2 B2 hb3 q0 q1 q2 q3 q4 q5 q6 sg ng ag;obtain⟨r0,r1,r2,r3,r4,r5,r6⟩:=R3.seven;have rf:=R3.jC;unfold Aq.val AH.val;go_wp2;refine bodyPost_ret (Gw _ _ (w.heap.size+1) _ _ _ _ _ _ _ true (Ag.all7 R3 _ _ _ _ _ _ _) rfl rfl) rfl ⟨g,by rw[TL.out];rfl,by rw[Jr,TL.out];exact SG.out,⟨?_,?_,?_⟩,AG,?_⟩
   ·refine NG.out.1.of (by simp) (fun q hq hn'=>?_);have q2:=NG.out.1.ne R3 (by decide) q hq hn';iterate 7 rw[blk_setCell_other _ _ _ _ (by dsimp only;omega)]
   ·refine NG.out.2.1.of (by simp) (fun q hq hn'=>?_);have q2:=NG.out.2.1.ne R3 (by decide) q hq hn';iterate 7 rw[blk_setCell_other _ _ _ _ (by dsimp only;omega)]
   ·refine NG.out.2.2.of (by simp) (fun q hq hn'=>?_);have q2:=NG.out.2.2.ne R3 (by decide) q hq hn';iterate 7 rw[blk_setCell_other _ _ _ _ (by dsimp only;omega)]
   ·iterate 7 refine Below.setCell ?_ (by dsimp only;omega) _
    exact B3





section
variable {ta oa ta' oa':Option Addr}{ca co ca' co':Nat}{lt lt':List Ae}{lo lo':List Ab}{s:Al}{tx:ByteArray}
theorem XK{c d:Aq}(h:d.nm=c.nm):c.same d:=by
 cases c;cases d;simp only[Aq.nm,Aq.mk.injEq]at h;exact⟨h.2.1,h.2.2.2.1,h.2.2.2.2⟩
end
structure P3(X:Ae)(x y:Ab):Prop where
 id:y.id=x.id
 up:y.up=x.up
 b1:y.b1=x.b1
 c1:y.c1=x.c1
 ch:(y.data=x.data/\y.jA=x.jA)∨Ao X x.b1 x.c1=true
theorem Ii{X:Ae}{x:Ab}:P3 X x x:=⟨rfl,rfl,rfl,rfl,.inl ⟨rfl,rfl⟩⟩
theorem UD{o x:Ab}:∀{a:List Ab},x∈a->x∈Bj o a
 |[],h=>absurd h List.not_mem_nil
 |y::a,h=>by
  unfold Bj;split
  ·exact List.mem_cons_of_mem _ h
  ·rcases List.mem_cons.1 h with h|h
   ·rw[h];exact List.mem_cons_self
   ·exact List.mem_cons_of_mem _ (UD h)
theorem Qs{X:Ae}{lo:List Ab}{u:Nat}{z:Ab}(hu:u<lo.length)(h:P3 X (Aa lo u) z):∀x∈lo,∃y∈lo.set u z,P3 X x y:=fun x hx=>by
 obtain⟨i,hi,e⟩:=List.mem_iff_getElem.1 hx;by_cases hiu:i=u
 ·subst hiu;rw[Ap hu,e]at h;exact⟨z,List.mem_set hu z,h⟩
 ·refine⟨x,?_,Ii⟩;have:(lo.set u z)[i]'(by simpa using hi)=x:=by rw[List.getElem_set_ne (by omega),e]
  rw[<-this];exact List.getElem_mem _
structure WY(X:Ae)(s:Al)(lo lo':List Ab)(tx:ByteArray)(u:Nat):Prop where
 at_:Gn lo s.id=some u
 lt:u<lo.length
 read:s.kind=7->tx=(Aa lo u).data
 sees:s.kind≠11->Fb X (Aa lo u).b1 (Aa lo u).c1=true
 keep:s.kind≠11->∀x∈lo,∃y∈lo',P3 X x y
 drop:s.kind=11->∀y∈lo',y∈lo
theorem QN{X:Ae}{lo:List Ab}:∀x∈lo,∃y∈lo,P3 X x y:=fun x hx=>⟨x,hx,Ii⟩
theorem Yp{G:List Int}{lo:List Ab}{j:Nat}:∀y∈DK G lo j,y∈lo:=fun y hy=>by
 unfold DK at hy;exact List.mem_of_mem_take (List.mem_filter.1 hy).1
theorem UF{lo:List Ab}{x:Int}{u:Nat}(h:Gn lo x=some u):u<lo.length:=(FC h).1
theorem Zb{X:Ae}{b:Int}{c:Aq}(h:Ao X b c=true):Fb X b c=true:=by
 unfold Ao at h;exact(Bool.and_eq_true_iff.1 h).1
theorem Zd{X:Ae}{s:Al}{lt lt':List Ae}{lo lo':List Ab}{t:Nat}{tx:ByteArray}(p:FJ X s lt lo t 0 tx lt' lo')(h1:s.kind≠1)(h2:s.kind≠12)(h3:s.kind≠14):∃u,WY X s lo lo' tx u:=by
 cases p with
 |k1 h=>exact absurd h h1
 |k12 h=>exact absurd h h2
 |k14 h=>exact absurd h h3
 |make h p=>
  rcases p with⟨e,_⟩|⟨e,_⟩|⟨_,hm,_,_,_,d1,d2,ow,_,_,_,rfl⟩
  ·cases e
  ·cases e
  ·unfold Fu at hm;cases e:Gn lo s.id with
   |none=>rw[e]at hm;cases hm
   |some u=>
    rw[e]at hm;simp only[Bool.and_eq_true]at hm;exact⟨u,e,UF e,fun e=>by omega,fun _=>Zb hm.1.1.1.2,fun _ x hx=>⟨x,UD hx,Ii⟩,fun e=>by omega⟩
 |drop h e1 e3 p=>
  rcases p with⟨e,_⟩|⟨_,_,u,hu,_,rfl⟩
  ·cases e
  ·exact⟨u,hu,UF hu,fun e=>by omega,fun e=>absurd h e,fun e=>absurd h e,fun _=>Yp⟩
 |k6 h p=>
  rcases p with⟨_,e,_⟩|⟨u,hu,⟨_,e,_⟩|⟨hc,_,_,_,rfl⟩⟩
  ·cases e
  ·cases e
  ·obtain⟨q1,q2,_,_,q5⟩:=GQ hu;exact⟨u,q2,q1,fun e=>by omega,fun _=>q5,fun _=>Qs q1 ⟨rfl,rfl,rfl,rfl,.inr hc⟩,fun e=>by omega⟩
 |k7 h p=>
  rcases p with⟨_,e,_⟩|⟨u,hu,_,e,_,rfl⟩
  ·cases e
  ·obtain⟨q1,q2,_,_,q5⟩:=GQ hu;exact⟨u,q2,q1,fun _=>e,fun _=>q5,fun _=>QN,fun e=>by omega⟩
 |k8 h p=>
  rcases p with⟨_,e,_⟩|⟨u,hu,⟨_,e,_⟩|⟨q,hq,⟨_,e,_⟩|⟨_,hc,_,_,_,rfl⟩⟩⟩
  ·cases e
  ·cases e
  ·cases e
  ·obtain⟨q1,q2,_,_,q5⟩:=GQ hu;exact⟨u,q2,q1,fun e=>by omega,fun _=>q5,fun _=>Qs (UF hq) ⟨rfl,rfl,rfl,rfl,.inr hc⟩,fun e=>by omega⟩
 |k9 h p=>
  rcases p with⟨_,e,_⟩|⟨u,hu,⟨_,e,_⟩|⟨_,_,e,_⟩|⟨hc,_,_,_,_,a,c',rfl⟩⟩
  ·cases e
  ·cases e
  ·cases e
  ·obtain⟨q1,q2,_,_,q5⟩:=GQ hu;exact⟨u,q2,q1,fun e=>by omega,fun _=>q5,fun _=>Qs q1 ⟨rfl,rfl,rfl,rfl,.inr hc⟩,fun e=>by omega⟩
 |k10 h p=>
  rcases p with⟨_,e,_⟩|⟨u,hu,⟨_,e,_⟩|⟨_,_,e,_⟩|⟨hc,_,_,_,_,a,c',rfl⟩⟩
  ·cases e
  ·cases e
  ·cases e
  ·obtain⟨q1,q2,_,_,q5⟩:=GQ hu;exact⟨u,q2,q1,fun e=>by omega,fun _=>q5,fun _=>Qs q1 ⟨rfl,rfl,rfl,rfl,.inr hc⟩,fun e=>by omega⟩
 |k13 h p=>
  rcases p with⟨_,e,_⟩|⟨u,hu,⟨_,e,_⟩|⟨_,_,e,_⟩|⟨_,_,_,_,a,c',_,rfl⟩⟩
  ·cases e
  ·cases e
  ·cases e
  ·obtain⟨q1,q2,_,_,q5⟩:=GQ hu;exact⟨u,q2,q1,fun e=>by omega,fun _=>q5,fun _=>QN,fun e=>by omega⟩
 |k15 h p=>
  rcases p with⟨_,e,_⟩|⟨u,hu,_,_,_,rfl⟩
  ·cases e
  ·obtain⟨q1,q2,_,_,q5⟩:=GQ hu;exact⟨u,q2,q1,fun e=>by omega,fun _=>q5,fun _=>QN,fun e=>by omega⟩
theorem XD{s:Al}(h:s.ok=true)(h0:s.id≠0):s.kind≠1/\s.kind≠12/\s.kind≠14:=by
 have n:=(Gr h).id;refine⟨fun e=>?_,fun e=>?_,fun e=>?_⟩<;>(rw[e]at n;simp[Ls,Zw]at n;exact h0 n)
section
variable {ta oa ta' oa':Option Addr}{ca co ca' co':Nat}{lt lt':List Ae}{lo lo':List Ab}{s:Al}{tx:ByteArray}
theorem Uk{lo:List Ab}(ok:okL lt lo=true){i:Nat}(hi:i<lo.length):Gn lo (Aa lo i).id=some i:=
 Dq (Bs.1 (show Bl (BQ none 0 none 0 lt lo)=true from ok)).rise hi
theorem QP(ok:okL lt lo=true)(x:Int):Hn (BQ ta ca oa co lt lo) x=Gn lo x:=by
 unfold Hn;rw[if_pos (show Bl (BQ ta ca oa co lt lo)=true from ok)];rfl
theorem Ng(h:FA (BQ ta ca oa co lt lo) s 0 tx lt' lo')(ok:okL lt lo=true)(h0:s.id≠0):
 ∃t u,Ou (BQ ta ca oa co lt lo) s.th=some t/\WY (AY lt t).nm s (lo.map Ab.nm) (lo'.map Ab.nm) tx u:=by
 have d:=YO ok h;obtain⟨so,t,ht,hat,p⟩:=Ye d;have ht':t<lt.length:=by simpa using ht
 obtain⟨k1,k2,k3⟩:=XD so h0;obtain⟨u,q⟩:=Zd p k1 k2 k3;have X:(lt.map Ae.nm)[t]=(AY lt t).nm:=by rw[List.getElem_map,Df ht']
 rw[X]at q;refine⟨t,u,?_,q⟩;unfold Ou;rw[if_pos (show Bl (BQ ta ca oa co lt lo)=true from ok)];rw[Sl]at hat;exact hat
structure WW(t:Ae)(s:Al)(x y:Ab)(st:Bool):Prop where
 keep:s.kind≠11->st=true/\y.up=x.up/\y.b1=x.b1/\x.c1.same y.c1
 ch:st=true->(y.data=x.data/\x.jA.same y.jA)∨Ao t x.b1 x.c1=true
theorem WX{c d:Aw}(h:d.nm=c.nm):c.same d:=by
 cases c;cases d;simp only[Aw.nm,Aw.mk.injEq]at h;exact⟨h.2.1,h.2.2.2⟩
theorem bf(h:FA (BQ ta ca oa co lt lo) s 0 tx lt' lo')(ok:okL lt lo=true)(h0:s.id≠0){i:Nat}(hi:i<lo.length){y:Ab}{t:Ae}
 (hy:(IB (BQ ta' ca' oa' co' lt' lo') (Aa lo i).id).same y)(ht:(Jr (BQ ta ca oa co lt lo) s.th).same t):WW t s (Aa lo i) y (Hn (BQ ta' ca' oa' co' lt' lo') (Aa lo i).id).isSome:=by
 obtain⟨T,u,e1,q⟩:=Ng h ok h0;have ok':=h.ok2 ok;have et:Jr (BQ ta ca oa co lt lo) s.th=AY lt T:=by
  unfold Jr;rw[e1];rfl
 rw[et]at ht;have mem:(Aa lo i).nm∈lo.map Ab.nm:=List.mem_map_of_mem (by rw[Ap hi];exact List.getElem_mem _);have ch:∀{b:Int}{c:Aq},Ao (AY lt T).nm b c.nm=Ao t b c:=fun{b c}=>by
  obtain⟨_,t1,⟨t2,t3,t4⟩,_,_,⟨t5,t6⟩,_⟩:=ht;unfold Ao Fb;rw[t1,t2,t3,t4,t5,t6];rfl
 have fnd:∀j,j<lo'.length->(Aa lo' j).id=(Aa lo i).id->Hn (BQ ta' ca' oa' co' lt' lo') (Aa lo i).id=some j/\IB (BQ ta' ca' oa' co' lt' lo') (Aa lo i).id=Aa lo' j:=fun j hj e=>by
  have a:=Uk ok' hj;rw[e]at a;exact⟨by rw[QP ok'];exact a,Ll ok' a⟩
 have tto:∀j,j<lo'.length->P3 (AY lt T).nm (Aa lo i).nm (Aa lo' j).nm->IB (BQ ta' ca' oa' co' lt' lo') (Aa lo i).id=Aa lo' j->
  (y.up=(Aa lo i).up/\y.b1=(Aa lo i).b1/\(Aa lo i).c1.same y.c1)/\((y.data=(Aa lo i).data/\(Aa lo i).jA.same y.jA)∨Ao t (Aa lo i).b1 (Aa lo i).c1=true):=fun j hj o e=>by
  rw[e]at hy;obtain⟨_,_,y3,y4,y5,y6,y7,_⟩:=hy;refine⟨⟨y3.trans o.up,y4.trans o.b1,?_⟩,?_⟩
  ·have:=XK o.c1;exact⟨y5.1.trans this.1,y5.2.1.trans this.2.1,y5.2.2.trans this.2.2⟩
  ·rcases o.ch with⟨o1,o2⟩|o1
   ·have:=WX o2;exact .inl ⟨y6.trans o1,y7.1.trans this.1,y7.2.trans this.2⟩
   ·exact .inr (by rw[<-ch];exact o1)
 refine⟨fun hk=>?_,fun hs=>?_⟩
 ·obtain⟨z,hz,o⟩:=q.keep hk _ mem;obtain⟨j,hj,e⟩:=List.mem_iff_getElem.1 hz;have hj':j<lo'.length:=by simpa using hj
  have ez:(Aa lo' j).nm=z:=by rw[Ap hj',<-e,List.getElem_map]
  rw[<-ez]at o;obtain⟨f1,f2⟩:=fnd j hj' o.id;exact⟨by rw[f1];rfl,(tto j hj' o f2).1⟩
 ·by_cases hk:s.kind=11
  ·obtain⟨j,hj⟩:=Option.isSome_iff_exists.1 hs;rw[QP ok']at hj;obtain⟨hj',ej⟩:=FC hj;rw[<-Ap hj']at ej;obtain⟨f1,f2⟩:=fnd j hj' ej;have mem':(Aa lo' j).nm∈lo'.map Ab.nm:=List.mem_map_of_mem (by rw[Ap hj'];exact List.getElem_mem _);obtain⟨z,hz,e⟩:=List.mem_map.1 (q.drop hk _ mem');obtain⟨m,hm,em⟩:=List.mem_iff_getElem.1 hz;rw[<-Ap hm]at em;have e3:(Aa lo m).id=(Aa lo i).id:=by
    rw[em,<-ej];have h3:z.nm.id=(Aa lo' j).nm.id:=(by rw[e]);exact h3
   have a1:=Uk ok hm;have a2:=Uk ok hi;rw[e3,a2]at a1;obtain rfl:i=m:=Option.some.inj a1;refine(tto j hj' ?_ f2).2;rw[<-e,<-em];exact Ii
  ·obtain⟨z,hz,o⟩:=q.keep hk _ mem;obtain⟨j,hj,e⟩:=List.mem_iff_getElem.1 hz;have hj':j<lo'.length:=(by simpa using hj);have ez:(Aa lo' j).nm=z:=(by rw[Ap hj',<-e,List.getElem_map]);rw[<-ez]at o;exact(tto j hj' o (fnd j hj' o.id).2).2
theorem bg(h:FA (BQ ta ca oa co lt lo) s 0 tx lt' lo')(ok:okL lt lo=true)(h0:s.id≠0){o:Ab}{t:Ae}
 (ho:(IB (BQ ta ca oa co lt lo) s.id).same o)(ht:(Jr (BQ ta ca oa co lt lo) s.th).same t):(Hn (BQ ta ca oa co lt lo) s.id).isSome=true/\(s.kind=7->tx=o.data)/\(s.kind≠11->Fb t o.b1 o.c1=true):=by
 obtain⟨T,u,e1,q⟩:=Ng h ok h0;have a:=q.at_;rw[Ju]at a;have et:Jr (BQ ta ca oa co lt lo) s.th=AY lt T:=by
  unfold Jr;rw[e1];rfl
 rw[et]at ht;rw[Ll ok a]at ho;obtain⟨_,_,_,o4,⟨o5,o6,o7⟩,o8,_⟩:=ho;refine⟨by rw[QP ok,a];rfl,fun hk=>?_,fun hk=>?_⟩
 ·rw[o8,q.read hk,Hu];rfl
 ·have:=q.sees hk;rw[Hu]at this;obtain⟨_,t1,⟨t2,t3,t4⟩,_,_,⟨t5,t6⟩,_⟩:=ht;unfold Fb at this ⊢;rw[o4,o5,o6,o7,t1,t2,t3,t4,t5,t6];exact this
theorem VC{x y:Ae}(h:x.same y)(f:JH x):JH y:=by
 obtain⟨a1,a2,⟨b1,b2,b3⟩,a4,⟨c1,c2,c3⟩,⟨d1,d2⟩,a7⟩:=h;have g:=Gi.2 f;refine Gi.1 ?_;unfold Dn at g ⊢;rw[a1,a2,b1,b2,b3,a4,c1,c2,c3,d1,d2,a7];exact g
theorem aU(h:FA (BQ ta ca oa co lt lo) s 0 tx lt' lo')(ok:okL lt lo=true)(h0:s.id≠0){o:Ab}{t:Ae}
 (ho:(IB (BQ ta ca oa co lt lo) s.id).same o)(ht:(Jr (BQ ta ca oa co lt lo) s.th).same t):JH t/\Ba o.b1 o.c1.n o.c1.f o.c1.g=true:=by
 obtain⟨T,u,e1,q⟩:=Ng h ok h0;have a:=q.at_;rw[Ju]at a;have et:Jr (BQ ta ca oa co lt lo) s.th=AY lt T:=by
  unfold Jr;rw[e1];rfl
 have hT:T<lt.length:=by
  unfold Ou at e1;rw[if_pos (show Bl (BQ ta ca oa co lt lo)=true from ok)]at e1;exact(Ay e1).1
 have hu:=UF a;rw[et]at ht;rw[Ll ok a]at ho;obtain⟨_,_,_,o4,⟨o5,o6,o7⟩,_⟩:=ho;refine⟨VC ht (Ez ok _ (by rw[Df hT];exact List.getElem_mem _)),?_⟩;rw[o4,o5,o6,o7];exact(DW ok (Aa lo u) (by rw[Ap hu];exact List.getElem_mem _)).l1
end

theorem Xn(base:Int)(a1 a2:Option Addr)(n k1 k2:Nat)(f g:Nat->Int)(w:World)(hn:n<=1048576)(h1:AX w a1 n f g)(h2:AX w a2 n f g):
 Calls prog 16 #[.agg #[.int .i64 base,.slice a1 n k1],.agg #[.int .i64 base,.slice a2 n k2]] w fun e w'=>e= .returned (.bool true)/\Below w w w':=by
 have n1:No (.cells #[.int .i64 base,.slice a1 n k1] 30):=⟨⟩;have n2:No (.cells #[.int .i64 base,.slice a2 n k2] 30):=⟨⟩;have hb0:=((Below.refl _ w).alloc nr n1).alloc (by simp) n2;have H1:Hid (AX w a1 n f g):=h1;have H2:Hid (AX w a2 n f g):=h2;clear h1 h2;have A0:Ag ((w.alloc n1).alloc n2) w n1:=(Ag.new w _).alloc _;have B0:Ag ((w.alloc n1).alloc n2) (w.heap.size+1) n2:=by
  have:=Ag.new (w.alloc n1) n2;simpa using this
 go_enter func16,ntmps16
 go_wp2;generalize (w.alloc n1).alloc n2=W0 at *;go_loopw [5] (fun i wr=>∃k:Nat,k<=n/\i= .int .i64 k/\Below W0 W0 wr) (fun i _=>n-(intOf i).toNat)
 case atStart=>exact⟨0,Nat.zero_le _,rfl,Below.refl _ _⟩
 case round=>
  obtain⟨k,hk,rfl,hB⟩:=hrel;obtain⟨x1,x2⟩:=(A0.below hB).two;obtain⟨x3,x4⟩:=(B0.below hB).two;have Lw:Below w w wr:=hb0.trans (hB.mono hb0.size);by_cases hlt':k<n
  ·obtain⟨p1,o1,rfl,l1,c1⟩:=H1.out.below Lw (by omega);obtain⟨p2,o2,rfl,l2,c2⟩:=H2.out.below Lw (by omega);obtain⟨r1,r2⟩:=c1 k hlt';obtain⟨r3,r4⟩:=c2 k hlt';have i0:(0:Int)<=(k:Int):=(by omega);have i1:(k:Int)<(n:Int):=(by omega);clear c1 c2;go_wp2_with fail
   go_region_held3(fun w'=>w'.cell? ⟨w,1,none⟩=some (.slice (some ⟨p1,o1,none⟩) n k1)/\w'.cell? ⟨w.heap.size+1,1,none⟩=some (.slice (some ⟨p2,o2,none⟩) n k2)/\w'.cell? ⟨p1,o1+k*2,none⟩=some (.int .i64 (f k))/\w'.cell? ⟨p1,o1+k*2+1,none⟩=some (.int .i64 (g k))/\w'.cell? ⟨p2,o2+k*2,none⟩=some (.int .i64 (f k))/\w'.cell? ⟨p2,o2+k*2+1,none⟩=some (.int .i64 (g k))) (go_keep) (fail)
   go_wp2;go_roundw;case rel=>exact⟨k+1,by omega,by go_num,hB.drew⟩
   case measure=>simp[intOf];omega
  ·have i1:¬(k:Int)<(n:Int):=(by omega);go_wp2;go_ret;exact⟨rfl,Lw⟩
theorem Oq(a b:Option Addr)(n c d:Nat)(f:Nat->ByteArray)(w:World)(hl:n<=1048576)(ha:EJ w a n f)(hb:EJ w b n f):
 Calls prog 22 #[.slice a n c,.slice b n d] w fun e w'=>e= .returned (.bool true)/\Below w w w':=by
 have HA:=hid ha;have HB:=hid hb;clear ha hb;go_enter func22,ntmps22
 go_wp2;go_loopw [5] (fun i wr=>∃j:Nat,j<=n/\i= .int .i64 j/\Below w w wr) (fun i _=>n-(intOf i).toNat)
 case atStart=>exact⟨0,Nat.zero_le _,rfl,Below.refl _ _⟩
 case round=>
  obtain⟨j,hj,rfl,be⟩:=hrel;have BB:=hid be;clear be;by_cases hlt:j<n
  ·have i2:(j:Int)<(n:Int):=(by omega);have i3:(0:Int)<=(j:Int):=(by omega);obtain⟨p,off,rfl,_,hc⟩:=HA.out.below BB (by omega);obtain⟨p',off',rfl,_,hc'⟩:=HB.out.below BB (by omega);have c0:=hc j hlt;have c1:=hc' j hlt;have HLT:=hid hlt;have n0:(!(f j).toList==(f j).toList)=false:=(by simp);clear hc hc';go_wp2_with fail
   go_quiet(fail)
   go_wp2;go_roundw;case rel=>exact⟨j+1,by have:=HLT.out;omega,by go_num,BB.out.trans ((below_drewN (Below.refl _ wr) _).mono BB.out.size)⟩
   case measure=>have:=HLT.out;simp[intOf];omega
  ·obtain rfl:j=n:=by omega
   have i2:¬(j:Int)<(j:Int):=(by omega);go_wp2;go_ret;exact⟨rfl,BB⟩
theorem N0(a b:Option Addr)(n m c d:Nat)(f f2:Nat->ByteArray)(w:World)(hl:n<=1048576)(ha:EJ w a n f)(hb:EJ w b m f2):
 Calls prog 22 #[.slice a n c,.slice b m d] w fun e w'=>∃r:Bool,e= .returned (.bool r)/\Below w w w':=by
 have HA:=hid ha;have HB:=hid hb;clear ha hb;go_enter func22,ntmps22
 by_cases hnm:n=m;rotate_left
 ·have n2:((n:Int) != (m:Int))=true:=by simp only[bne_iff_ne,ne_eq];omega
  go_wp2;go_ret;exact⟨_,rfl,Below.refl _ _⟩
 subst hnm;have n2:((n:Int) != (n:Int))=false:=by simp
 go_wp2;go_loopw [5] (fun i wr=>∃j:Nat,j<=n/\i= .int .i64 j/\Below w w wr) (fun i _=>n-(intOf i).toNat)
 case atStart=>exact⟨0,Nat.zero_le _,rfl,Below.refl _ _⟩
 case round=>
  obtain⟨j,hj,rfl,be⟩:=hrel;have BB:=hid be;clear be;by_cases hlt:j<n
  ·have i2:(j:Int)<(n:Int):=(by omega);have i3:(0:Int)<=(j:Int):=(by omega);obtain⟨p,off,rfl,_,hc⟩:=HA.out.below BB (by omega);obtain⟨p',off',rfl,_,hc'⟩:=HB.out.below BB (by omega);have c0:=hc j hlt;have c1:=hc' j hlt;have HLT:=hid hlt;clear hc hc';cases n0:(!(f j).toList==(f2 j).toList)with
   |false=>
    go_wp2_with fail
    go_quiet(fail)
    go_wp2;go_roundw;case rel=>exact⟨j+1,by have:=HLT.out;omega,by go_num,BB.out.trans ((below_drewN (Below.refl _ wr) _).mono BB.out.size)⟩
    case measure=>have:=HLT.out;simp[intOf];omega
   |true=>
    go_wp2_with fail
    go_quiet(fail)
    go_wp2;go_ret;exact⟨_,rfl,BB.out.trans ((below_drewN (Below.refl _ wr) _).mono BB.out.size)⟩
  ·obtain rfl:j=n:=by omega
   have i2:¬(j:Int)<(j:Int):=(by omega);go_wp2;go_ret;first|exact BB.out|exact⟨⟨_,rfl⟩,BB⟩|(refine⟨?_,BB⟩;simp)
end Go.Proofs.YtbdagpckhfcneaaGreatDoor
