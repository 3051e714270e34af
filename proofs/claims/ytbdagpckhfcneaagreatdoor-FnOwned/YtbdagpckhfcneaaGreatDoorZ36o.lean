import Derived.Lib.Bytealg
import Derived.Lib.IndexLaws
import Derived.Test.YtbdagpckhfcneaaGreatDoorNF4o
set_option maxRecDepth 100000
set_option maxHeartbeats 8000000
namespace Go.Proofs.YtbdagpckhfcneaaGreatDoor
open Go Go.RowKit Go.Deep Go.Maps Go.BigFrame Go.Shelf Go.Proofs.Tryz
variable {lt:List Ae}{lo:List Ab}
structure OT(lt:List Ae)(lo:List Ab):Prop where
 tn:1<=lt.length/\lt.length<=9
 on:1<=lo.length/\lo.length<=271
 t:∀x∈lt,x.small
 o:∀x∈lo,x.small/\(0<=x.id/\x.id<=1000000)/\QX x.up
theorem SJ(ok:okL lt lo=true):OT lt lo:=by
 refine⟨FG ok,Eb ok,fun x hx=>(Eo ok x hx).small,fun x hx=>?_⟩;have f:=EJ ok x hx;have it:=Lq ok x hx;refine⟨⟨by have:=(Bv f.l1).2;omega,by have:=FZ f.data;omega,⟨by omega,fun i hi=>by have:=FZ (it.2 i hi);omega⟩,by have:=II f.own;omega,by have:=(Bv f.l2).2;omega⟩,Hi ok x hx,?_⟩;obtain⟨i,hi,e⟩:=List.mem_iff_getElem.1 hx;have e2:Aa lo i=x:=(AJ hi).trans e;by_cases h0:i=0
 ·subst h0;have:=(Gl ok).2.2;rw[e2]at this;rw[this];exact QX.of (by omega) (by omega)
 ·obtain⟨p,p1,p2,_⟩:=(BF.1 ok).box i (by omega) hi;have p3:(Aa lo p).id=(Aa lo i).up:=p2;have hp:p<lo.length:=p1;have:=Hi ok _ (List.getElem_mem hp);rw[e2,AJ hp]at p3;rw[<-p3];exact QX.of (by omega) (by omega)
theorem I6.F(h:I6 lt lo):OT lt lo:=by
 cases h with
 |right h=>exact SJ h
 |up h u o d hu ho hd=>
  have f:=SJ h;refine⟨f.tn,by simpa using f.on,f.t,fun x hx=>?_⟩;rcases El hx with rfl|hx
  ·have:=f.o _ (List.getElem_mem hu);rw[<-ho]at this;exact⟨this.1,this.2.1,hd⟩
  ·exact f.o x hx
 |kind h u o d hu ho hd=>
  have f:=SJ h;refine⟨f.tn,by simpa using f.on,f.t,fun x hx=>?_⟩;rcases El hx with rfl|hx
  ·have:=f.o _ (List.getElem_mem hu);rw[<-ho]at this;exact this
  ·exact f.o x hx
 |made h X d ht hX hd=>
  have f:=SJ h;refine⟨by simpa using f.tn,f.on,fun x hx=>?_,f.o⟩;rcases El hx with rfl|hx
  ·have:=f.t _ (List.getElem_mem ht);rw[<-hX]at this;exact this
  ·exact f.t x hx
theorem OT.data(h:OT lt lo):∀x∈lo,x.data.size<=maxLen:=fun x hx=>by
 have:=(h.o x hx).1.2.1;unfold maxLen;omega
theorem Yt(a:Option Addr)(n cap:Nat)(w:World):Calls prog 7 #[.slice a n cap] w fun e w'=>e= .returned (.bool (decide (1048576<n)))/\w'=w:=by
 go_enter func7,ntmps7
 go_wp2;go_ret;refine⟨Ah ?_,rfl⟩;congr 1;apply propext;omega
theorem I6.S{lt:List Ae}{lo:List Ab}(h:I6 lt lo):WH lt lo:=by
 cases h with
 |right h=>exact WH.of h
 |up h u o d hu ho hd=>
  have f:=WH.of h;refine⟨f.tn,by simpa using f.on,fun x hx=>?_,fun x hx=>?_,f.thr⟩
  ·rcases El hx with rfl|hx
   ·have t:=f.data _ (List.getElem_mem hu);rw[<-ho]at t;exact t
   ·exact f.data x hx
  ·rcases El hx with rfl|hx
   ·have t:=f.id _ (List.getElem_mem hu);rw[<-ho]at t;exact t
   ·exact f.id x hx
 |kind h u o d hu ho hd=>
  have f:=WH.of h;refine⟨f.tn,by simpa using f.on,fun x hx=>?_,fun x hx=>?_,f.thr⟩
  ·rcases El hx with rfl|hx
   ·have t:=f.data _ (List.getElem_mem hu);rw[<-ho]at t;exact t
   ·exact f.data x hx
  ·rcases El hx with rfl|hx
   ·have t:=f.id _ (List.getElem_mem hu);rw[<-ho]at t;exact t
   ·exact f.id x hx
 |made h X d ht hX hd=>
  have f:=WH.of h;refine⟨by simpa using f.tn,f.on,f.data,f.id,fun x hx=>?_⟩;rcases El hx with rfl|hx
  ·have t:=f.thr _ (List.getElem_mem ht);rw[<-hX]at t;exact t
  ·exact f.thr x hx
variable {P:Nat}{w w':World}{s:Al}
theorem OV(tmps:Array Value)(W:World)(P Q:Nat)(x y x0 x1 x2 x3 x4 x5 x6 x7 x8 x9:Value)(h:Ag W P (.cells #[x,y] 27))(h':Ag W Q (.cells #[x0,x1,x2,x3,x4,x5,x6,x7,x8,x9] 32))(h2:tmps[2]? =some (.pointer P))(h3:tmps[3]? =some (.pointer Q)):
 (results Tryz.f8 tmps).run prog W= .ok (.tuple #[.agg #[x,y],.agg #[x0,x1,x2,x3,x4,x5,x6,x7,x8,x9]]) W:=by
 obtain⟨y0,y1⟩:=h.two;obtain⟨z0,z1,z2,z3,z4,z5,z6,z7,z8,z9⟩:=h'.jE;simp[results,Tryz.results8,go_sem,h2,h3,y0,y1,z0,z1,z2,z3,z4,z5,z6,z7,z8,z9]
theorem Tk{W:World}{Q:Nat}{o:Obj}(h:Ag W P o)(hne:Q≠P)(x0 x1 x2 x3 x4 x5 x6 x7 x8 x9:Value):Ag ((((((((((W.setCell ⟨Q,0,none⟩ x0).setCell ⟨Q,1,none⟩ x1).setCell ⟨Q,2,none⟩ x2).setCell ⟨Q,3,none⟩ x3).setCell ⟨Q,4,none⟩ x4).setCell ⟨Q,5,none⟩ x5).setCell ⟨Q,6,none⟩ x6).setCell ⟨Q,7,none⟩ x7).setCell ⟨Q,8,none⟩ x8).setCell ⟨Q,9,none⟩ x9) P o:=
 (((((((((h.other hne _).other hne _).other hne _).other hne _).other hne _).other hne _).other hne _).other hne _).other hne _).other hne _
theorem Ve{B:Nat}{vt vo:Value}{lt:List Ae}{lo:List Ab}{y0 y1 y2 y3 y4 y5 y6 y7 y8 y9:Value}(h:BH w B vt vo lt lo)(hb:Ag w P (.cells #[y0,y1,y2,y3,y4,y5,y6,y7,y8,y9] 32))(x0 x1 x2 x3 x4 x5 x6 x7 x8 x9:Value):BH ((((((((((w.setCell ⟨P,0,none⟩ x0).setCell ⟨P,1,none⟩ x1).setCell ⟨P,2,none⟩ x2).setCell ⟨P,3,none⟩ x3).setCell ⟨P,4,none⟩ x4).setCell ⟨P,5,none⟩ x5).setCell ⟨P,6,none⟩ x6).setCell ⟨P,7,none⟩ x7).setCell ⟨P,8,none⟩ x8).setCell ⟨P,9,none⟩ x9) B vt vo lt lo:=by
 have h0:=hb.jB (i:=0) x0;have h1:=h0.jB (i:=1) x1;have h2:=h1.jB (i:=2) x2;have h3:=h2.jB (i:=3) x3;have h4:=h3.jB (i:=4) x4;have h5:=h4.jB (i:=5) x5;have h6:=h5.jB (i:=6) x6;have h7:=h6.jB (i:=7) x7;have h8:=h7.jB (i:=8) x8;exact(((((((((h.set hb (.inr rfl) x0).set h0 (.inr rfl) x1).set h1 (.inr rfl) x2).set h2 (.inr rfl) x3).set h3 (.inr rfl) x4).set h4 (.inr rfl) x5).set h5 (.inr rfl) x6).set h6 (.inr rfl) x7).set h7 (.inr rfl) x8).set h8 (.inr rfl) x9
def Al.own(s:Al)(w:World):Prop:=s.c1.new 0 w/\s.c2.new 0 w/\s.data.size<=100/\0<=s.id/\s.id<=1000000
theorem Al.own.at(h:s.own w):s.at w:=⟨h.1.1,h.2.1.1,Nat.le_trans h.2.2.1 (by unfold maxLen;omega)⟩
theorem Al.own.keeps(h:s.own w)(k:Eg w w'):s.own w':=⟨h.1.keeps k,h.2.1.keeps k,h.2.2⟩
theorem Al.own.below(h:s.own w)(k:Below w w w'):s.own w':=⟨h.1.below k,h.2.1.below k,h.2.2⟩
theorem QM(a:Option Addr)(n cap:Nat)(w:World)(hn:n<=1048576)(hb:BytesAt w a n):
 Calls prog 8 #[.slice a n cap] w fun e w'=>∃(lt:List Ae) (lo:List Ab) (g ca q co:Nat) (s:Al),e= .returned (.tuple #[.agg #[.slice g lt.length ca,.slice q lo.length co],.agg s])/\BH w' w (.slice g lt.length ca) (.slice q lo.length co) lt lo/\I6 lt lo/\s.own w'/\Below w w w':=by
 have n1:No (.cells #[.int .i64 0,.int .i64 0,.int .i64 0,.int .i64 0,.int .i64 0,.string (ByteArray.mk #[]),.int .i64 0,.slice none 0 0,.int .i64 0,.slice none 0 0] 32):=⟨⟩;have n5:No (.cells #[.slice none 0 0,.slice none 0 0] 27):=⟨⟩;have v0:((w.alloc n5).alloc n1).heap.size=w.heap.size+2:=by simp
 have R0:Hid (Ag ((w.alloc n5).alloc n1) w n5):=hid ((Ag.new w _).alloc _);have S0:Hid (Ag ((w.alloc n5).alloc n1) (w.heap.size+1) n1):=hid (by have:=Ag.new (w.alloc n5) n1;simpa using this);have B0:Hid (Below w w ((w.alloc n5).alloc n1)):=hid ((Bd w _).alloc (by simp) _);have HB:=hid (hb.below B0);clear hb;go_enter func8,ntmps8
 go_wp2_with fail
 generalize ((w.alloc n5).alloc n1)=V at *;refine(Tz a n cap V hn HB).mono ?_;rintro e w1 ⟨rb,rfl,r1⟩;have R1:=hid r1;have l1:=r1.lt;have le1:=r1.le;clear r1;go_wp2_with fail
 refine(Qh V rb a n cap w1 R1).mono ?_;rintro e w2 ⟨lt,lo,g,ca,q,co,rfl,ks,kd,r2,g2⟩;have KD:=hid kd;have n2:Na #[.slice g lt.length ca,.slice q lo.length co]:=⟨⟩;have K3:=hid (ks.below (Bd w2 (.cells n2 27)));have C3:=hid (Ag.new w2 (.cells n2 27));have R3:=hid (r2.below (Bd w2 (.cells n2 27)));have c2:w.heap.size+1<w2.heap.size:=by have:=g2.size;omega
 have c3:rb<w2.heap.size:=by have:=g2.size;omega
 clear r2 ks kd g2 R1;go_wp2_with fail
 generalize w2.alloc (.cells n2 27)=W3 at *;generalize w2.heap.size=C at *;have n3:Nv (.slice g lt.length ca):=⟨⟩;have n4:Nv (.slice q lo.length co):=⟨⟩;have DR:Hid (BH W3.drew w1 n3 n4 lt lo/\Ag W3.drew C (.cells n2 27)):=hid ⟨K3.out.below (Ay (Below.refl _ W3)),C3.out.below (Ay (Below.refl _ W3))⟩;have E1:Hid (∀args w,(callFunc 26 args).run prog w= .ok (.enter 26 args) w):=hid (enters_of func26 (by kernel_rfl) rfl);have FI:Hid (Calls prog 26 #[.pointer rb,.agg n2] W3.drew fun e w'=>∃v,e= .returned v/\(∃s:Al,v= .agg s/\s.own w'/\BH w' w1 n3 n4 lt lo/\Ag w' C (.cells n2 27)/\Ag w' w n5/\Ag w' (w.heap.size+1) n1/\Below w w w')):=hid (by
  have rd:=R3.out.drew;refine(MW V rb a n cap W3.drew rd lt lo g ca q co w1 DR.out.1 l1 KD.out.S).mono ?_;rintro e w' ⟨s,e1,hs,r,g'⟩;exact⟨_,e1,s,rfl,hs,DR.out.1.jX g' l1,DR.out.2.grown g' (by simp;omega),R0.out.below r.E,S0.out.below r.E,Af B0 r.E⟩)
 refine Am 5 (fun W=>BH W w1 n3 n4 lt lo/\Ag W C (.cells n2 27)) (by kernel_rfl) ?_;refine tr 0 10 (.agg n2) DR ?_ (hy:=fun W h=>by obtain⟨z0,z1⟩:=h.2.two;go_simp);refine tr 1 11 (.pointer rb) DR ?_;refine tr 2 12 (.agg n2) DR ?_ (hy:=fun W h=>by obtain⟨z0,z1⟩:=h.2.two;go_simp);generalize W3.drew=WD at *;refine Ac (i:=3) (by kernel_rfl) rfl ?_;intro K hK;refine Ax (by rfl) 26 _ _ _ (by rfl) E1 _ _ (by rfl) (by rfl) (some 13) (by rfl) _ FI ?_;rintro v w4 ⟨s,rfl,hs,hk,hC,hR,hS,hB⟩;have KX:=hid hk;have RX:=hid hR;have SX:=hid hS;have BX:=hid hB;have HX:=hid hs;have CX:=hid hC;refine hK _ _ (fun _=>⟨KX,hC⟩) ?_;clear hK K hS hR hB hs hk hC;simp only[ap,List.set];obtain⟨r0,r1⟩:=RX.out.two;have rf:=RX.out.jC;refine Ac (i:=4) (by kernel_rfl) rfl ?_;intro K hK;go_simp;have cne:w.heap.size≠C:=by omega
 refine hK _ _ (fun _=>⟨(KX.out.set RX (.inl rfl) _).set (RX.out.jB (i:=0) _) (.inl rfl) _,(CX.out.other cne _).other cne _⟩) ?_;clear hK K r0 r1 rf;try simp only[ap,List.set]
 have ne:w.heap.size≠w.heap.size+1:=by omega
 have S4:=hid ((SX.out.other (i:=0) ne n3).other (i:=1) ne n4);have R4:=hid ((RX.out.jB (i:=0) n3).jB (i:=1) n4);have K4:=hid ((KX.out.set RX (.inl rfl) (i:=0) n3).set (RX.out.jB (i:=0) _) (.inl rfl) (i:=1) n4);have B4:Hid (Below w w ((w4.setCell ⟨w,0,none⟩ n3).setCell ⟨w,1,none⟩ n4)):=hid ((BX.out.setCell nr _).setCell nr _);have H4:=hid ((HX.out.keeps (As (i:=0) RX (by decide) n3)).keeps (As (i:=1) (RX.out.jB (i:=0) _) (by decide) n4));clear SX RX KX BX HX;generalize (w4.setCell ⟨w,0,none⟩ n3).setCell ⟨w,1,none⟩ n4=w5 at *;obtain⟨s0,s1,s2,s3,s4,s5,s6,s7,s8,s9⟩:=S4.out.jE;have sf:=S4.out.jC;refine Ac (i:=5) (by kernel_rfl) rfl ?_;intro K hK;go_simp;refine hK _ _ (fun h=>absurd h (by decide)) ?_;clear hK K s0 s1 s2 s3 s4 s5 s6 s7 s8 s9 sf;refine Ai (by kernel_rfl) ?_ _;go_wp2;have n6:Nv (.slice s.c1.a s.c1.n s.c1.k):=⟨⟩;have n7:Nv (.slice s.c2.a s.c2.n s.c2.k):=⟨⟩;refine bodyPost_ret (OV _ _ w (w.heap.size+1) _ _ _ _ _ _ _ _ _ _ _ _ (Tk R4 (Ne.symm ne) (.int .i64 s.th) (.int .i64 s.kind) (.int .i64 s.id) (.int .i64 s.to) (.int .i64 s.cat) (.string s.data) (.int .i64 s.b1) n6 (.int .i64 s.b2) n7) (Lr S4 (.int .i64 s.th) (.int .i64 s.kind) (.int .i64 s.id) (.int .i64 s.to) (.int .i64 s.cat) (.string s.data) (.int .i64 s.b1) n6 (.int .i64 s.b2) n7) rfl rfl) rfl ⟨lt,lo,g,ca,q,co,s,rfl,?_,KD,?_,?_⟩
 ·exact Ve (K4.out.base (by omega)) S4 (.int .i64 s.th) (.int .i64 s.kind) (.int .i64 s.id) (.int .i64 s.to) (.int .i64 s.cat) (.string s.data) (.int .i64 s.b1) n6 (.int .i64 s.b2) n7
 ·exact H4.out.keeps (IV S4 (by decide) (.int .i64 s.th) (.int .i64 s.kind) (.int .i64 s.id) (.int .i64 s.to) (.int .i64 s.cat) (.string s.data) (.int .i64 s.b1) n6 (.int .i64 s.b2) n7)
 ·exact Zw B4 (by omega) (.int .i64 s.th) (.int .i64 s.kind) (.int .i64 s.id) (.int .i64 s.to) (.int .i64 s.cat) (.string s.data) (.int .i64 s.b1) n6 (.int .i64 s.b2) n7
theorem aM{x:Int}(h:QX x):(Lit.int .i64 x).wf=true:=by
 have e1:IntKind.i64.min= -9223372036854775808:=by decide
 have e2:IntKind.i64.max=9223372036854775807:=by decide
 simp[Lit.wf,e1,e2];unfold QX at h;omega
theorem Hp.at{w:World}{B ca co:Nat}{ta oa:Option Addr}{lt:List Ae}{lo:List Ab}(h:Hp w B (.slice ta lt.length ca) (.slice oa lo.length co) lt lo)(f:OT lt lo):(Ct ta ca oa co lt lo).at w:=
 ⟨Nat.le_trans f.tn.2 (by unfold maxLen;omega),Nat.le_trans f.on.2 (by unfold maxLen;omega),h.t.lies (fun x hx=>(h.tn x hx).at),h.o.lies (fun x hx=>(h.on x hx).at (f.data x hx))⟩
theorem OT.wf{lt:List Ae}{lo:List Ab}(f:OT lt lo):∀i,i<lo.length->(Lit.int .i64 (Aa lo i).id).wf=true/\(Lit.int .i64 (Aa lo i).up).wf=true:=fun i hi=>by
 have h:=f.o _ (List.getElem_mem hi);rw[AJ hi];exact⟨NU h.2.1,aM h.2.2⟩
theorem OT.small{lt:List Ae}{lo:List Ab}(f:OT lt lo)(ta oa:Option Addr)(ca co:Nat):(Ct ta ca oa co lt lo).small:=⟨⟨by show lt.length<=1048576;have:=f.tn.2;omega,fun i hi=>by
 have hi':i<lt.length:=hi;show(Ao lt i).small;rw[CY hi'];exact f.t _ (List.getElem_mem hi')⟩,by show lo.length<=1048576;have:=f.on.2;omega,fun i hi=>by
 have hi':i<lo.length:=hi;show(Aa lo i).small;rw[AJ hi'];exact(f.o _ (List.getElem_mem hi')).1⟩
structure Kn(B:Nat)(W:World)(lt:List Ae)(lo:List Ab)(ta oa:Option Addr)(ca co:Nat):Prop where
 st:Hp W B (.slice ta lt.length ca) (.slice oa lo.length co) lt lo
 f:OT lt lo
theorem Kn.below{B:Nat}{W W':World}{lt:List Ae}{lo:List Ab}{ta oa:Option Addr}{ca co:Nat}(h:Kn B W lt lo ta oa ca co)(hb:Below W W W'):Kn B W' lt lo ta oa ca co:=⟨h.st.below hb,h.f⟩
theorem Kn.cap{B:Nat}{W:World}{lt:List Ae}{lo:List Ab}{ta oa:Option Addr}{ca co:Nat}(h:Kn B W lt lo ta oa ca co):lo.length<=co:=(Dl h.st.o).1
def Wi(W:World)(E:Nat->Addr):Prop:=Kf W E/\WY W E/\QZ W
theorem Wi.below{W W':World}{E:Nat->Addr}(h:Wi W E)(hb:Below W W W'):Wi W' E:=⟨h.1.below (by have:=h.2.1.2.2.2;omega) hb,h.2.1.below hb,h.2.2.below hb⟩
section
variable {B:Nat}{W:World}{lt:List Ae}{lo:List Ab}{ta oa:Option Addr}{ca co:Nat} (h:Kn B W lt lo ta oa ca co)
include h
theorem Kn.done{E:Nat->Addr}{s:Al}(hr:WP E s)(hs:s.at W)(v:Wi W E):Calls prog 9 #[.agg #[.slice ta lt.length ca,.slice oa lo.length co],.agg s] W fun e w'=>ZU (Ct ta ca oa co lt lo) s W e w':=
 (Qv E (Ct ta ca oa co lt lo) s hr W (h.st.at h.f) hs h.cap h.f.wf v.1 v.2.1 v.2.2).mono fun _ _ d=>d.ans
theorem Kn.spec{s:Al}(hs:s.at W):Calls prog 10 #[.agg #[.slice ta lt.length ca,.slice oa lo.length co],.agg s] W fun e w'=>ZE (Ct ta ca oa co lt lo) s W e w':=
 Tn (Ct ta ca oa co lt lo) W (h.st.at h.f) (fun i hi=>(h.f.wf i hi).1) s hs
theorem Kn.obj{x:Int}(hx:(Lit.int .i64 x).wf=true):Calls prog 15 #[.agg #[.slice ta lt.length ca,.slice oa lo.length co],.int .i64 x] W fun e w'=>KJ (Ct ta ca oa co lt lo) x W w' e:=
 KR (Ct ta ca oa co lt lo) x W (h.st.at h.f) (h.f.small ta oa ca co) h.cap h.f.wf hx
end
theorem Zj{lt lt':List Ae}{lo lo':List Ab}{s:Al}{t:Nat}{c:Int}{tx:ByteArray}{X:Ae}(p:FF X s lt lo t c tx lt' lo'):lt'.length=lt.length:=by
 cases p with
 |k1 h x e1 e2 p=>rw[e1];simp
 |k12 h x e1 e2 e3 p=>rw[e1];simp
 |k14 h x e1 e2 e3 p=>rw[e1];simp
 |make h p=>rcases p with⟨_,_,_,e,_⟩|⟨_,_,_,_,e,_⟩|⟨_,_,_,_,e,_⟩<;>rw[e]<;>simp
 |drop h e1 e3 p=>rw[e1]
 |k6 h p=>rcases p with⟨_,_,_,e,_⟩|⟨u,_,⟨_,_,_,e,_⟩|⟨_,_,_,e,_⟩⟩<;>rw[e]
 |k7 h p=>rcases p with⟨_,_,_,e,_⟩|⟨u,_,_,_,e,_⟩<;>rw[e]
 |k8 h p=>rcases p with⟨_,_,_,e,_⟩|⟨u,_,⟨_,_,_,e,_⟩|⟨q,_,⟨_,_,_,e,_⟩|⟨_,_,_,_,e,_⟩⟩⟩<;>rw[e]
 |k9 h p=>rcases p with⟨_,_,_,e,_⟩|⟨u,_,⟨_,_,_,e,_⟩|⟨_,_,_,_,e,_⟩|⟨_,_,_,_,e,_⟩⟩<;>rw[e]
 |k10 h p=>rcases p with⟨_,_,_,e,_⟩|⟨u,_,⟨_,_,_,e,_⟩|⟨_,_,_,_,e,_⟩|⟨_,_,_,_,e,_⟩⟩<;>rw[e]
 |k13 h p=>rcases p with⟨_,_,_,e,_⟩|⟨u,_,⟨_,_,_,e,_⟩|⟨_,_,_,_,e,_⟩|⟨_,_,_,_,_,_,e,_⟩⟩<;>rw[e]<;>simp
 |k15 h p=>rcases p with⟨_,_,_,e,_⟩|⟨u,_,_,_,e,_⟩<;>rw[e]
theorem XE{lt lt':List Ae}{lo lo':List Ab}{s:Al}{c:Int}{tx:ByteArray}(d:Gs lt lo s c tx lt' lo'):lt'.length=lt.length:=by
 cases d with
 |form a b t e f=>rw[e]
 |thread a b c t e f=>rw[e]
 |act a t ht hn p=>exact Zj p
section
variable {ta oa ta1 oa1 ta2 oa2:Option Addr}{ca co ca1 co1 ca2 co2:Nat}{lt lt1 lt2:List Ae}{lo lo1 lo2:List Ab}{s:Al}{c:Int}{tx tx2:ByteArray}
theorem Rb(h:Fu (Ct ta ca oa co lt lo) s c tx lt1 lo1)(ok:okL lt lo=false):c=1/\lt1=[]:=by
 rcases h with⟨_,e,_,e1,e2⟩|⟨e,_⟩
 ·exact⟨e,e1⟩
 ·rw[show Bo (Ct ta ca oa co lt lo)=false from ok]at e;cases e
theorem Uv(h:Fu (Ct ta ca oa co lt lo) s 0 tx lt1 lo1)(ok:okL lt lo=true):okL lt1 lo1=true/\lt1.length=lt.length/\s.ok=true:=by
 have d:=Qp ok h;refine⟨h.ok2 ok,by simpa using XE d,(MV d).1⟩
end
variable {B:Nat}{w w':World}{t:Ae}
def IW:Ae:=⟨0,0,⟨none,0,0,fun _=>0,fun _=>0⟩,0,⟨none,0,0,fun _=>0,fun _=>0⟩,⟨none,0,0,fun _=>0⟩,0⟩
theorem VY(B:Nat)(w:World):IW.new B w:=⟨⟨⟨Nat.zero_le _,fun h=>by simp[IW]at h⟩,fun h=>by simp[IW]at h⟩,⟨⟨Nat.zero_le _,fun h=>by simp[IW]at h⟩,fun h=>by simp[IW]at h⟩,⟨⟨Nat.zero_le _,fun h=>by simp[IW]at h⟩,fun h=>by simp[IW]at h⟩⟩
theorem RO:IW.apart:=fun _ _ _ h=>by simp[IW]at h
theorem Ae.same.refl(t:Ae):t.same t:=⟨rfl,rfl,⟨rfl,rfl,rfl⟩,rfl,⟨rfl,rfl,rfl⟩,⟨rfl,rfl⟩,rfl⟩
def Qd(k:AE)(x:Int):Option Nat:=if Bo k=true then Bi (fun i=>(k.T i).id) k.tn x else none
def Mj(k:AE)(x:Int):Ae:=match Qd k x with
 |some i=>k.T i
 |none=>IW
theorem Ae.new.below(h:t.new B w)(hb:Below w w w'):t.new B w':=⟨h.1.below hb,h.2.1.below hb,h.2.2.below hb⟩
theorem Gw(tmps:Array Value)(W:World)(P:Nat)(x0 x1 x2 x3 x4 x5 x6:Value)(b:Bool)(h:Ag W P (.cells #[x0,x1,x2,x3,x4,x5,x6] 42))(h2:tmps[4]? =some (.pointer P))(h3:tmps[5]? =some (.bool b)):
 (results Tryz.f14 tmps).run prog W= .ok (.tuple #[.agg #[x0,x1,x2,x3,x4,x5,x6],.bool b]) W:=by
 obtain⟨z0,z1,z2,z3,z4,z5,z6⟩:=h.seven;simp[results,Tryz.results14,go_sem,h2,h3,z0,z1,z2,z3,z4,z5,z6]
def NY(k:AE)(x:Int)(w w':World)(e:Ending):Prop:=∃g:Ae,e= .returned (.tuple #[g.val,.bool (Qd k x).isSome])/\(Mj k x).same g/\g.new w w'/\g.apart/\Below w w w'
theorem NY.none{k:AE}{x:Int}(h:Qd k x= .none)(hb:Below w w w'):NY k x w w' (.returned (.tuple #[.agg #[.int .i64 0,.int .i64 0,.slice .none 0 0,.int .i64 0,.slice .none 0 0,.slice .none 0 0,.int .i64 0],.bool false])):=
 ⟨IW,by rw[h];rfl,by rw[Mj,h];exact Ae.same.refl _,VY _ _,RO,hb⟩
theorem KQ(k:AE)(x:Int)(w:World)(hk:k.at w)(hs:k.small)(hcap:k.on<=k.ok)(hw:∀i,i<k.on->(Lit.int .i64 (k.O i).id).wf=true/\(Lit.int .i64 (k.O i).up).wf=true):
 Calls prog 14 #[k.val,.int .i64 x] w fun e w'=>NY k x w w' e:=by
 have n1:No (.cells #[.int .i64 0,.int .i64 0,.slice none 0 0,.int .i64 0,.slice none 0 0,.slice none 0 0,.int .i64 0] 42):=⟨⟩;have n2:No (.cells #[.slice k.ta k.tn k.tk,.slice k.oa k.on k.ok] 27):=⟨⟩;have b0:Below w w ((w.alloc n2).alloc n1):=(Bd w _).alloc (by simp) _;have A0:=(Ag.new w n2).alloc n1;have R0:Ag ((w.alloc n2).alloc n1) (w.heap.size+1) n1:=by
  have:=Ag.new (w.alloc n2) n1;simpa using this
 have HK:=hid hk;have HS:=hid hs;have C1:=hid (IB k _ (hk.below b0) hcap hw);unfold AE.val at C1;unfold AE.val;obtain⟨x0,x1⟩:=A0.two;have ne1:¬w.heap.size=w.heap.size+1:=by omega
 have ne2:¬w.heap.size+1=w.heap.size:=by omega
 clear hk hs hw;go_enter func14,ntmps14
 go_wp2_with fail
 refine C1.out.mono ?_;rintro e w1 ⟨rfl,hb1⟩;have A1:=A0.below hb1;have R1:=R0.below hb1;have B1:=Af b0 hb1;clear x0 x1 C1 A0 R0 b0 hb1;obtain⟨x0,x1⟩:=A1.two;obtain⟨r0,r1,r2,r3,r4,r5,r6⟩:=R1.seven;have rf:=R1.jC;cases t:Bo k with
 |false=>
  have N:=hid (show Qd k x=none by simp[Qd,t]);go_wp2;refine bodyPost_ret (Gw _ _ (w.heap.size+1) _ _ _ _ _ _ _ false (Ag.all7 R1 _ _ _ _ _ _ _) rfl rfl) rfl (NY.none N ?_);iterate 7 refine Below.setCell ?_ (by dsimp only;omega) _
  exact B1
 |true=>
  have TL:Hid (Qd k x=Bi (fun i=>(k.T i).id) k.tn x):=hid (by rw[Qd,if_pos t]);have C2:=hid (Ir k.ta k.tn k.tk k.T x w1 HK.out.1 (HK.out.below B1).2.2.1);obtain⟨tn1,_,_⟩:=Dg (show Br k.tn k.T=true by simp only[Bo,Bool.and_eq_true]at t;exact t.1.1.1.1);clear t;go_wp2_with fail
  refine C2.out.mono ?_;rintro e w2 ⟨rfl,hb2⟩;have A2:=A1.below hb2;have R2:=R1.below hb2;have B2:=Af B1 hb2;clear x0 x1 r0 r1 r2 r3 r4 r5 r6 rf C2 A1 R1 B1 hb2;obtain⟨x0,x1⟩:=A2.two;obtain⟨r0,r1,r2,r3,r4,r5,r6⟩:=R2.seven;have rf:=R2.jC;cases hf:Bi (fun i=>(k.T i).id) k.tn x with
  |none=>
   rw[hf]at TL;have e3:FV none= -1:=rfl;rw[e3];clear hf e3;go_wp2;refine bodyPost_ret (Gw _ _ (w.heap.size+1) _ _ _ _ _ _ _ false (Ag.all7 R2 _ _ _ _ _ _ _) rfl rfl) rfl (NY.none TL ?_);iterate 7 refine Below.setCell ?_ (by dsimp only;omega) _
   exact B2
  |some i=>
   have hi:=(AH hf).1;rw[hf]at TL;have e3:FV (some i)=(i:Int):=rfl;rw[e3];have u0:¬(i:Int)<0:=(by omega);have u0':(0:Int)<=(i:Int):=(by omega);have u1:(i:Int)<(k.tn:Int):=(by omega);obtain⟨b,off,ea,_,hcc⟩:=(HK.out.below B2).2.2.1 (by omega);obtain⟨⟨q0,q1,q2,q3,q4,q5,q6⟩,ht⟩:=hcc i hi;rw[ea]at x0;have C3:=hid (Ln (k.T i) w2 ht (HS.out.1.2 i hi));unfold Ae.val at C3;clear hf e3 hcc ht ea;go_wp2_with fail
   refine C3.out.mono ?_;rintro e w3 ⟨g,rfl,sg,ng,ag,hb3⟩;have R3:=R2.below hb3;have B3:=Af B2 hb3;have NG:=hid (ng.low B2.size);have SG:=hid sg;have AG:=hid ag;clear x0 x1 r0 r1 r2 r3 r4 r5 r6 rf C3 A2 R2 B2 hb3 q0 q1 q2 q3 q4 q5 q6 sg ng ag;obtain⟨r0,r1,r2,r3,r4,r5,r6⟩:=R3.seven;have rf:=R3.jC;unfold Aq.val AI.val;go_wp2;refine bodyPost_ret (Gw _ _ (w.heap.size+1) _ _ _ _ _ _ _ true (Ag.all7 R3 _ _ _ _ _ _ _) rfl rfl) rfl ⟨g,by rw[TL.out];rfl,by rw[Mj,TL.out];exact SG.out,⟨?_,?_,?_⟩,AG,?_⟩
   ·refine NG.out.1.of (by simp) (fun q hq hn'=>?_);have q2:=NG.out.1.ne R3 (by decide) q hq hn';iterate 7 rw[blk_setCell_other _ _ _ _ (by dsimp only;omega)]
   ·refine NG.out.2.1.of (by simp) (fun q hq hn'=>?_);have q2:=NG.out.2.1.ne R3 (by decide) q hq hn';iterate 7 rw[blk_setCell_other _ _ _ _ (by dsimp only;omega)]
   ·refine NG.out.2.2.of (by simp) (fun q hq hn'=>?_);have q2:=NG.out.2.2.ne R3 (by decide) q hq hn';iterate 7 rw[blk_setCell_other _ _ _ _ (by dsimp only;omega)]
   ·iterate 7 refine Below.setCell ?_ (by dsimp only;omega) _
    exact B3
theorem Uh(s:ByteArray):s.toList.isEmpty=decide (s.size=0):=by
 rw[ByteArray.toList_eq];cases s with
 |mk a=>cases a with
  |mk l=>cases l<;>simp[ByteArray.size]



theorem Qr(n:Nat):1<=(Dd n).length:=by
 by_cases h:n<10
 ·rw[Ig h];simp
 ·rw[J9 h];simp
structure Xj(X x:Ae)(s:Al)(lo:List Ab):Prop where
 id:x.id=X.id
 b2:x.b2=X.b2
 c2:x.c2=X.c2
 lab:s.kind≠12->x.b1=X.b1/\x.c1=X.c1
 up:s.kind=12->Dj X.b1 X.c1 X.own x.b1 x.c1=true/\Dj x.b1 x.c1 X.own X.b2 X.c2=true
 own:∀j,j<x.own.n->hasB X.own.n X.own.h (x.own.h j)=true∨s.kind=1∨(s.kind=13/\∃u,GC lo s.id=some u/\hasB (Aa lo u).own.n (Aa lo u).own.h (x.own.h j)=true)
theorem Nb{n:Nat}{h:Nat->Int}{j:Nat}(hj:j<n):hasB n h (h j)=true:=GX hj rfl
theorem UV{n:Nat}{h:Nat->Int}{x:Int}(hx:x∈(List.range n).map h):hasB n h x=true:=by
 obtain⟨i,hi,e⟩:=List.mem_map.1 hx;exact GX (List.mem_range.1 hi) e
theorem Vd{L:List Int}{j:Nat}(h:j<L.length):AO L j∈L:=by
 unfold AO;rw[List.getD_eq_getElem?_getD,List.getElem?_eq_getElem h];exact List.getElem_mem h
theorem Fl{X:Ae}{s:Al}{lo:List Ab}(h:s.kind≠12):Xj X X s lo:=⟨rfl,rfl,rfl,fun _=>⟨rfl,rfl⟩,fun e=>absurd e h,fun _ hj=> .inl (Nb hj)⟩
theorem Yz{X:Ae}{s:Al}{lt lt':List Ae}{lo lo':List Ab}{t:Nat}{tx:ByteArray}(ht:t<lt.length)(hX:X=lt[t])(p:FF X s lt lo t 0 tx lt' lo'):∃x,lt'=lt.set t x/\Xj X x s lo:=by
 have st:lt=lt.set t X:=by rw[hX];exact(List.set_getElem_self ht).symm
 cases p with
 |k1 h x e1 e2 p=>
  rcases p with⟨e,_⟩|⟨_,_,_,a,cc,rfl⟩
  ·cases e
  ·exact⟨_,e1,rfl,rfl,rfl,fun _=>⟨rfl,rfl⟩,fun e=>by omega,fun j _=> .inr (.inl h)⟩
 |k12 h x e1 e2 e3 p=>
  rcases p with⟨e,_⟩|⟨_,hr,d,sd,rfl⟩
  ·cases e
  ·unfold Hm at hr;simp only[Bool.and_eq_true]at hr;refine⟨_,e1,rfl,rfl,rfl,fun e=>absurd h e,fun _=>?_,fun j hj=> .inl (Nb hj)⟩;obtain⟨q1,q2,q3⟩:=sd;unfold Dj;simp only[q1,q2,q3];exact hr
 |k14 h x e1 e2 e3 p=>
  rcases p with⟨e,_⟩|⟨_,_,a,cc,rfl⟩
  ·cases e
  ·exact⟨_,e1,rfl,rfl,rfl,fun _=>⟨rfl,rfl⟩,fun e=>by omega,fun j hj=> .inl (UV (Sz (Vd hj)))⟩
 |make h p=>
  rcases p with⟨e,_⟩|⟨e,_⟩|⟨_,_,_,_,e,_⟩
  ·cases e
  ·cases e
  ·exact⟨_,e,rfl,rfl,rfl,fun _=>⟨rfl,rfl⟩,fun e=>by omega,fun j hj=> .inl (Nb hj)⟩
 |drop h e1 e3 p=>exact⟨X,by rw[e1];exact st,Fl (by omega)⟩
 |k6 h p=>rcases p with⟨_,e,_⟩|⟨u,_,⟨_,e,_⟩|⟨_,_,_,e,_⟩⟩<;>first|(exact⟨X,by rw[e];exact st,Fl (by omega)⟩)|cases e
 |k7 h p=>rcases p with⟨_,e,_⟩|⟨u,_,_,_,e,_⟩<;>first|(exact⟨X,by rw[e];exact st,Fl (by omega)⟩)|cases e
 |k8 h p=>rcases p with⟨_,e,_⟩|⟨u,_,⟨_,e,_⟩|⟨q,_,⟨_,e,_⟩|⟨_,_,_,_,e,_⟩⟩⟩<;>first|(exact⟨X,by rw[e];exact st,Fl (by omega)⟩)|cases e
 |k9 h p=>rcases p with⟨_,e,_⟩|⟨u,_,⟨_,e,_⟩|⟨_,_,e,_⟩|⟨_,_,_,_,e,_⟩⟩<;>first|(exact⟨X,by rw[e];exact st,Fl (by omega)⟩)|cases e
 |k10 h p=>rcases p with⟨_,e,_⟩|⟨u,_,⟨_,e,_⟩|⟨_,_,e,_⟩|⟨_,_,_,_,e,_⟩⟩<;>first|(exact⟨X,by rw[e];exact st,Fl (by omega)⟩)|cases e
 |k13 h p=>
  rcases p with⟨_,e,_⟩|⟨u,hu,⟨_,e,_⟩|⟨_,_,e,_⟩|⟨_,_,_,_,a,c',e,_⟩⟩
  ·cases e
  ·cases e
  ·cases e
  ·refine⟨_,e,rfl,rfl,rfl,fun _=>⟨rfl,rfl⟩,fun e=>by omega,fun j hj=>?_⟩;rcases(Lj _ _).1 (Vd hj)with hm|⟨i,hi,e⟩
   ·exact .inl (UV hm)
   ·exact .inr (.inr ⟨h,u,(Xy hu).2.1,GX hi e.symm⟩)
 |k15 h p=>rcases p with⟨_,e,_⟩|⟨u,_,_,_,e,_⟩<;>first|(exact⟨X,by rw[e];exact st,Fl (by omega)⟩)|cases e
theorem YQ{L:List Ae}{t j:Nat}{x:Ae}(hj:j<L.length):Ao (L.set t x) j=if j=t then x else Ao L j:=Qm hj
section
variable {ta oa ta' oa':Option Addr}{ca co ca' co':Nat}{lt lt':List Ae}{lo lo':List Ab}{s:Al}{tx:ByteArray}
theorem TE{lt:List Ae}{lo:List Ab}(ok:okL lt lo=true){i:Nat}(hi:i<lt.length):Qt lt (Ao lt i).id=some i:=by
 refine G5 (ids:=fun j=>(Ao lt j).id) hi rfl fun j hj e=>?_;have h:=Hu (Bs (k:=Ct none 0 none 0 lt lo) ok).1 j i hj hi;have e':(Ao lt j).id=(Ao lt i).id:=e;have h':(Ao lt j).id<(Ao lt i).id:=h;omega
theorem ME(h:Fu (Ct ta ca oa co lt lo) s 0 tx lt' lo')(ok:okL lt lo=true){i:Nat}(hi:i<lt.length):
 Qd (Ct ta' ca' oa' co' lt' lo') (Ao lt i).id=some i/\(Ao lt' i).b2=(Ao lt i).b2/\(Ao lt' i).c2.nm=(Ao lt i).c2.nm/\
 ((Ao lt i).id≠s.th->(Ao lt' i).nm=(Ao lt i).nm)/\((Ao lt i).id=s.th->Xj (Ao lt i).nm (Ao lt' i).nm s (lo.map Ab.nm)):=by
 have d:=Qp ok h;obtain⟨_,t,ht,hat,p⟩:=MV d;obtain⟨x,e,tO⟩:=Yz ht rfl p;have ht':t<lt.length:=by simpa using ht
 have hx:∀j,j<lt.length->(Ao lt' j).nm=if j=t then x else(Ao lt j).nm:=fun j hj=>by
  rw[<-Ye,e,YQ (by simpa using hj),Ye]
 have X:(lt.map Ae.nm)[t]=(Ao lt t).nm:=by rw[List.getElem_map,CY ht']
 rw[X]at tO;have len:lt'.length=lt.length:=by simpa using congrArg List.length e
 have ids:∀j,j<lt.length->(Ao lt' j).id=(Ao lt j).id:=fun j hj=>by
  have:=hx j hj;show(Ao lt' j).nm.id=(Ao lt j).nm.id;rw[this];split
  ·rename_i e;rw[e,tO.id]
  ·rfl
 have ok':=h.ok2 ok;have at':Qt lt' (Ao lt i).id=some i:=by
  rw[<-ids i hi];exact TE ok' (by omega)
 have hth:(Ao lt t).id=s.th:=by
  rw[Q6]at hat;exact(AH hat).2
 refine⟨?_,?_,?_,fun hne=>?_,fun he=>?_⟩
 ·unfold Qd;rw[if_pos (show Bo (Ct ta' ca' oa' co' lt' lo')=true from ok')];exact at'
 ·show(Ao lt' i).nm.b2=(Ao lt i).nm.b2;rw[hx i hi];split
  ·rename_i e;rw[e,tO.b2]
  ·rfl
 ·show(Ao lt' i).nm.c2=(Ao lt i).nm.c2;rw[hx i hi];split
  ·rename_i e;rw[e,tO.c2]
  ·rfl
 ·rw[hx i hi,if_neg fun e=>hne (by rw[e];exact hth)]
 ·have e:i=t:=by
   have h1:=TE ok hi;have h2:=TE ok ht';rw[he,<-hth,h2]at h1;exact(Option.some.inj h1).symm
  subst e;rw[hx i hi,if_pos rfl];exact tO
structure bf(t u:Ae)(s:Al)(o:Ab):Prop where
 b2:u.b2=t.b2
 c2:t.c2.same u.c2
 ne:t.id≠s.th->u.b1=t.b1/\t.c1.same u.c1/\t.own.same u.own
 lab:t.id=s.th->s.kind≠12->u.b1=t.b1/\t.c1.same u.c1
 up:t.id=s.th->s.kind=12->Dj t.b1 t.c1 t.own u.b1 u.c1=true/\Dj u.b1 u.c1 t.own t.b2 t.c2=true
 own:t.id=s.th->∀j,j<u.own.n->hasB t.own.n t.own.h (u.own.h j)=true∨s.kind=1∨(s.kind=13/\hasB o.own.n o.own.h (u.own.h j)=true)
theorem JW{c d:Aq}(h:d.nm=c.nm):c.same d:=by
 cases c;cases d;simp only[Aq.nm,Aq.mk.injEq]at h;exact⟨h.2.1,h.2.2.2.1,h.2.2.2.2⟩
theorem Sa{c d:AI}(h:d.nm=c.nm):c.same d:=by
 cases c;cases d;simp only[AI.nm,AI.mk.injEq]at h;exact⟨h.2.1,h.2.2.2⟩
theorem bY(h:Fu (Ct ta ca oa co lt lo) s 0 tx lt' lo')(ok:okL lt lo=true){i:Nat}(hi:i<lt.length){u:Ae}{o:Ab}
 (hu:(Mj (Ct ta' ca' oa' co' lt' lo') (Ao lt i).id).same u)(ho:(QP (Ct ta ca oa co lt lo) s.id).same o):bf (Ao lt i) u s o:=by
 obtain⟨h1,h2,h3,h4,h5⟩:=ME (ta':=ta') (oa':=oa') (ca':=ca') (co':=co') h ok hi;have eu:Mj (Ct ta' ca' oa' co' lt' lo') (Ao lt i).id=Ao lt' i:=by
  unfold Mj;rw[h1];rfl
 rw[eu]at hu;have en:u.nm=(Ao lt' i).nm:=Uu hu (Fy _);have f:∀{x y:Ae},x.nm=y.nm->x.b1=y.b1/\x.c1.nm=y.c1.nm/\x.own.nm=y.own.nm/\x.b2=y.b2/\x.c2.nm=y.c2.nm:=fun{x y} e=>by
  cases x;cases y;simp only[Ae.nm,Ae.mk.injEq]at e;exact⟨e.2.1,e.2.2.1,e.2.2.2.2.2.1,e.2.2.2.1,e.2.2.2.2.1⟩
 obtain⟨u1,u2,u3,u4,u5⟩:=f en;refine⟨u4.trans h2,JW (u5.trans h3),fun hne=>?_,fun he hk=>?_,fun he hk=>?_,fun he j hj=>?_⟩
 ·obtain⟨v1,v2,v3,_,_⟩:=f (h4 hne);exact⟨u1.trans v1,JW (u2.trans v2),Sa (u3.trans v3)⟩
 ·obtain⟨v1,v2⟩:=(h5 he).lab hk;exact⟨u1.trans v1,JW (u2.trans v2)⟩
 ·obtain⟨v1,v2⟩:=(h5 he).up hk;obtain⟨q1,q2,q3⟩:=JW u2;unfold Dj at v1 v2 ⊢;rw[u1,q1,q2,q3];exact⟨v1,v2⟩
 ·obtain⟨q1,q2⟩:=Sa u3;rw[q2];rw[q1]at hj;rcases(h5 he).own j hj with v|v|⟨v,x,hx,w⟩
  ·exact .inl v
  ·exact .inr (.inl v)
  ·rw[Ki]at hx;have e:=Wa (ta:=ta) (oa:=oa) (ca:=ca) (co:=co) ok hx;rw[e]at ho;obtain⟨o1,o2⟩:=ho.2.2.2.2.2.2.2.1;rw[If]at w;exact .inr (.inr ⟨v,by rw[o1,o2];exact w⟩)
theorem YD(h:Fu (Ct ta ca oa co lt lo) s 0 tx lt' lo')(ok:okL lt lo=true){i:Nat}(hi:i<lt.length){u:Ae}
 (hu:(Mj (Ct ta' ca' oa' co' lt' lo') (Ao lt i).id).same u):Ba u.b1 u.c1.n u.c1.f u.c1.g=true:=by
 obtain⟨h1,_⟩:=ME (ta':=ta') (oa':=oa') (ca':=ca') (co':=co') h ok hi;have eu:Mj (Ct ta' ca' oa' co' lt' lo') (Ao lt i).id=Ao lt' i:=by
  unfold Mj;rw[h1];rfl
 rw[eu]at hu;obtain⟨_,b,c,_⟩:=hu;have len:=(Uv h ok).2.1;have f:=(Eo (h.ok2 ok) (Ao lt' i) (by rw[CY (by omega)];exact List.getElem_mem _)).l1;rw[b,c.1,c.2.1,c.2.2];exact f
theorem WU(h:Fu (Ct ta ca oa co lt lo) s 0 tx lt' lo')(ok:okL lt lo=true)(hk:s.kind=1):tx.toList.isEmpty=false:=by
 obtain⟨_,t,ht,_,p⟩:=MV (Qp ok h);have q:∃x,Zq (lt.map Ae.nm)[t] 0 tx x:=by
  cases p<;>first|(rename_i p;exact⟨_,p⟩)|(exfalso;omega)
 obtain⟨x,⟨e,_⟩|⟨_,_,e,_⟩⟩:=q
 ·cases e
 ·rw[e,Uh];refine decide_eq_false ?_;show(Dd _).toArray.size≠0;have:=Qr (Au (lt.map Ae.nm)[t]).toNat;rw[List.size_toArray];omega
end
theorem Tw(a:Option Addr)(n cap:Nat)(h:Nat->Int)(x:Int)(w:World)(hn:n<=maxLen)(hc:Bf w a n h):
 Calls prog 17 #[.slice a n cap,.int .i64 x] w fun e w'=>e= .returned (.bool (hasB n h x))/\w'=w:=by
 unfold maxLen at hn;go_enter func17,ntmps17
 go_wp2;go_loop [5] (fun i=>∃k:Nat,k<=n/\i= .int .i64 k/\(∀j,j<k->h j≠x)) (fun i=>n-(intOf i).toNat)
 case atStart=>exact⟨0,Nat.zero_le _,rfl,fun j hj=>by omega⟩
 case round=>
  obtain⟨k,hk,rfl,hall⟩:=hrel;have HA:Hid (∀j,j<k->h j≠x):=hall;clear hall;by_cases hlt':k<n
  ·obtain⟨b,off,rfl,hlt,hcc⟩:=hc (by omega);have g1:=hcc k hlt';clear hcc hc;by_cases t:(h k==x)=true
   ·go_wp2;go_ret;exact⟨Ah (GX hlt' (by simpa using t)).symm,rfl⟩
   ·have t':(h k==x)=false:=(by simpa using t);clear t;go_wp2;go_round;case rel=>
     refine⟨k+1,by omega,by go_num,fun j hj=>?_⟩;by_cases e:j=k
     ·subst e;simpa using t'
     ·exact HA.out j (by omega)
    case measure=>simp[intOf];omega
  ·clear hc;go_wp2;go_ret;have e:k=n:=(by omega);subst e;exact⟨Ah (MC HA).symm,rfl⟩
theorem XP(base:Int)(a1 a2:Option Addr)(n k1 k2:Nat)(f g:Nat->Int)(w:World)(hn:n<=1048576)(h1:AW w a1 n f g)(h2:AW w a2 n f g):
 Calls prog 16 #[.agg #[.int .i64 base,.slice a1 n k1],.agg #[.int .i64 base,.slice a2 n k2]] w fun e w'=>e= .returned (.bool true)/\Below w w w':=by
 have n1:No (.cells #[.int .i64 base,.slice a1 n k1] 30):=⟨⟩;have n2:No (.cells #[.int .i64 base,.slice a2 n k2] 30):=⟨⟩;have hb0:=((Below.refl _ w).alloc nr n1).alloc (by simp) n2;have H1:Hid (AW w a1 n f g):=h1;have H2:Hid (AW w a2 n f g):=h2;clear h1 h2;have A0:Ag ((w.alloc n1).alloc n2) w n1:=(Ag.new w _).alloc _;have B0:Ag ((w.alloc n1).alloc n2) (w.heap.size+1) n2:=by
  have:=Ag.new (w.alloc n1) n2;simpa using this
 go_enter func16,ntmps16
 go_wp2;generalize (w.alloc n1).alloc n2=W0 at *;go_loopw [5] (fun i wr=>∃k:Nat,k<=n/\i= .int .i64 k/\Below W0 W0 wr) (fun i _=>n-(intOf i).toNat)
 case atStart=>exact⟨0,Nat.zero_le _,rfl,Below.refl _ _⟩
 case round=>
  obtain⟨k,hk,rfl,hB⟩:=hrel;obtain⟨x1,x2⟩:=(A0.below hB).two;obtain⟨x3,x4⟩:=(B0.below hB).two;have Lw:Below w w wr:=hb0.trans (hB.mono hb0.size);by_cases hlt':k<n
  ·obtain⟨p1,o1,rfl,l1,c1⟩:=H1.out.below Lw (by omega);obtain⟨p2,o2,rfl,l2,c2⟩:=H2.out.below Lw (by omega);obtain⟨r1,r2⟩:=c1 k hlt';obtain⟨r3,r4⟩:=c2 k hlt';have i0:(0:Int)<=(k:Int):=(by omega);have i1:(k:Int)<(n:Int):=(by omega);clear c1 c2;go_wp2_with fail
   go_region_held3(fun w'=>w'.cell? ⟨w,1,none⟩=some (.slice (some ⟨p1,o1,none⟩) n k1)/\w'.cell? ⟨w.heap.size+1,1,none⟩=some (.slice (some ⟨p2,o2,none⟩) n k2)/\w'.cell? ⟨p1,o1+k*2,none⟩=some (.int .i64 (f k))/\w'.cell? ⟨p1,o1+k*2+1,none⟩=some (.int .i64 (g k))/\w'.cell? ⟨p2,o2+k*2,none⟩=some (.int .i64 (f k))/\w'.cell? ⟨p2,o2+k*2+1,none⟩=some (.int .i64 (g k))) (go_keep) (fail)
   go_wp2;go_roundw;case rel=>exact⟨k+1,by omega,by go_num,hB.drew⟩
   case measure=>simp[intOf];omega
  ·have i1:¬(k:Int)<(n:Int):=(by omega);go_wp2;go_ret;exact⟨rfl,Lw⟩
theorem Vx(base base2:Int)(a1 a2:Option Addr)(n m k1 k2:Nat)(f g f2 g2:Nat->Int)(w:World)(hn:n<=1048576)(hm:m<=1048576)(h1:AW w a1 n f g)(h2:AW w a2 m f2 g2):
 Calls prog 16 #[.agg #[.int .i64 base,.slice a1 n k1],.agg #[.int .i64 base2,.slice a2 m k2]] w fun e w'=>∃r:Bool,e= .returned (.bool r)/\Below w w w':=by
 have n5:No (.cells #[.int .i64 base,.slice a1 n k1] 30):=⟨⟩;have n6:No (.cells #[.int .i64 base2,.slice a2 m k2] 30):=⟨⟩;have hb0:=((Below.refl _ w).alloc nr n5).alloc (by simp) n6;have H1:Hid (AW w a1 n f g):=h1;have H2:Hid (AW w a2 m f2 g2):=h2;clear h1 h2;have A0:Ag ((w.alloc n5).alloc n6) w n5:=(Ag.new w _).alloc _;have B0:Ag ((w.alloc n5).alloc n6) (w.heap.size+1) n6:=by
  have:=Ag.new (w.alloc n5) n6;simpa using this
 go_enter func16,ntmps16
 by_cases hb:base=base2;rotate_left
 ·have n1:(base != base2)=true:=by simpa using hb
  go_wp2;go_ret;exact⟨_,rfl,hb0⟩
 subst hb;have n1:(base != base)=false:=by simp
 by_cases hnm:n=m;rotate_left
 ·have n2:((n:Int) != (m:Int))=true:=by simp only[bne_iff_ne,ne_eq];omega
  go_wp2;go_ret;exact⟨_,rfl,hb0⟩
 subst hnm;have n2:((n:Int) != (n:Int))=false:=by simp
 go_wp2;generalize (w.alloc n5).alloc (.cells #[.int .i64 base,.slice a2 n k2] 30)=W0 at *;go_loopw [5] (fun i wr=>∃k:Nat,k<=n/\i= .int .i64 k/\Below W0 W0 wr) (fun i _=>n-(intOf i).toNat)
 case atStart=>exact⟨0,Nat.zero_le _,rfl,Below.refl _ _⟩
 case round=>
  obtain⟨k,hk,rfl,hB⟩:=hrel;obtain⟨x1,x2⟩:=(A0.below hB).two;obtain⟨x3,x4⟩:=(B0.below hB).two;have Lw:Below w w wr:=hb0.trans (hB.mono hb0.size);by_cases hlt':k<n
  ·obtain⟨p1,o1,rfl,l1,c1⟩:=H1.out.below Lw (by omega);obtain⟨p2,o2,rfl,l2,c2⟩:=H2.out.below Lw (by omega);obtain⟨r1,r2⟩:=c1 k hlt';obtain⟨r3,r4⟩:=c2 k hlt';have i0:(0:Int)<=(k:Int):=(by omega);have i1:(k:Int)<(n:Int):=(by omega);clear c1 c2;generalize hx:f2 k=x2 at *;generalize hy:g2 k=y2 at *;by_cases ef:f k=x2
   ·subst ef;by_cases eg:g k=y2
    ·subst eg;go_wp2_with fail
     go_region_held3(fun w'=>w'.cell? ⟨w,1,none⟩=some (.slice (some ⟨p1,o1,none⟩) n k1)/\w'.cell? ⟨w.heap.size+1,1,none⟩=some (.slice (some ⟨p2,o2,none⟩) n k2)/\w'.cell? ⟨p1,o1+k*2,none⟩=some (.int .i64 (f k))/\w'.cell? ⟨p1,o1+k*2+1,none⟩=some (.int .i64 (g k))/\w'.cell? ⟨p2,o2+k*2,none⟩=some (.int .i64 (f k))/\w'.cell? ⟨p2,o2+k*2+1,none⟩=some (.int .i64 (g k))) (go_keep) (fail)
     go_wp2;go_roundw;case rel=>exact⟨k+1,by omega,by go_num,hB.drew⟩
     case measure=>simp[intOf];omega
    ·have n4:(g k==y2)=false:=(by simpa using eg);go_wp2_with fail
     go_region_held3(fun w'=>w'.cell? ⟨w,1,none⟩=some (.slice (some ⟨p1,o1,none⟩) n k1)/\w'.cell? ⟨w.heap.size+1,1,none⟩=some (.slice (some ⟨p2,o2,none⟩) n k2)/\w'.cell? ⟨p1,o1+k*2,none⟩=some (.int .i64 (f k))/\w'.cell? ⟨p1,o1+k*2+1,none⟩=some (.int .i64 (g k))/\w'.cell? ⟨p2,o2+k*2,none⟩=some (.int .i64 (f k))/\w'.cell? ⟨p2,o2+k*2+1,none⟩=some (.int .i64 y2)) (go_keep) (fail)
     go_wp2;go_ret;exact⟨_,rfl,Lw.drew⟩
   ·have n3:(f k==x2)=false:=(by simpa using ef);go_wp2_with fail
    go_region_held3(fun w'=>w'.cell? ⟨w,1,none⟩=some (.slice (some ⟨p1,o1,none⟩) n k1)/\w'.cell? ⟨w.heap.size+1,1,none⟩=some (.slice (some ⟨p2,o2,none⟩) n k2)/\w'.cell? ⟨p1,o1+k*2,none⟩=some (.int .i64 (f k))/\w'.cell? ⟨p1,o1+k*2+1,none⟩=some (.int .i64 (g k))/\w'.cell? ⟨p2,o2+k*2,none⟩=some (.int .i64 x2)/\w'.cell? ⟨p2,o2+k*2+1,none⟩=some (.int .i64 y2)) (go_keep) (fail)
    go_wp2;go_ret;exact⟨_,rfl,Lw.drew⟩
  ·have i1:¬(k:Int)<(n:Int):=(by omega);go_wp2;go_ret;refine⟨?_,Lw⟩;simp
theorem Qw(L:List Int)(a b:Option Addr)(c d:Nat)(w:World)(hl:L.length<=1048576)(ha:AI.at w ⟨a,L.length,c,AO L⟩)(hb:AI.at w ⟨b,L.length,d,AO L⟩):
 Calls prog 23 #[.slice a L.length c,.slice b L.length d] w fun e w'=>e= .returned (.bool true)/\Below w w w':=by
 have HA:=hid ha.2;have HB:=hid hb.2;simp only at HA HB;clear ha hb;go_enter func23,ntmps23
 go_wp2;go_loopw [5] (fun i wr=>∃j:Nat,j<=L.length/\i= .int .i64 j/\Below w w wr) (fun i _=>L.length-(intOf i).toNat)
 case atStart=>exact⟨0,Nat.zero_le _,rfl,Below.refl _ _⟩
 case round=>
  obtain⟨j,hj,rfl,be⟩:=hrel;have BB:=hid be;clear be;by_cases hlt:j<L.length
  ·have i2:(j:Int)<(L.length:Int):=(by omega);have i3:(0:Int)<=(j:Int):=(by omega);obtain⟨p,off,rfl,_,hc⟩:=HA.out.below BB (by omega);obtain⟨p',off',rfl,_,hc'⟩:=HB.out.below BB (by omega);have c0:=hc j hlt;have c1:=hc' j hlt;have HLT:=hid hlt;have n0:(AO L j != AO L j)=false:=(by simp);clear hc hc';go_wp2_with fail
   go_quiet(fail)
   go_wp2;go_roundw;case rel=>exact⟨j+1,by have:=HLT.out;omega,by go_num,BB.out.trans ((below_drewN (Below.refl _ wr) _).mono BB.out.size)⟩
   case measure=>have:=HLT.out;simp[intOf];omega
  ·obtain rfl:j=L.length:=by omega
   have i2:¬(L.length:Int)<(L.length:Int):=(by omega);go_wp2;go_ret;exact⟨rfl,BB⟩
end Go.Proofs.YtbdagpckhfcneaaGreatDoor
