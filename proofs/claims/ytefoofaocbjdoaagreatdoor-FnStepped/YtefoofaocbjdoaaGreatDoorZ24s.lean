import Derived.Test.YtefoofaocbjdoaaGreatDoorNF4s
set_option maxRecDepth 100000
set_option maxHeartbeats 8000000
namespace Go.Proofs.YtefoofaocbjdoaaGreatDoor
open Go Go.RowKit Go.Deep Go.Maps Go.BigFrame Go.Shelf Go.Proofs.Tryz
variable {lt:List Ae}{lo:List Ab}
structure La(lt:List Ae)(lo:List Ab):Prop where
 tn:1<=lt.length/\lt.length<=9
 on:1<=lo.length/\lo.length<=271
 t:∀x∈lt,x.small
 o:∀x∈lo,x.small/\(0<=x.id/\x.id<=1000000)/\Ro x.up
theorem Mn(ok:okL lt lo=true):La lt lo:=by
 refine⟨FY ok,Ec ok,fun x hx=>(Fq ok x hx).small,fun x hx=>?_⟩;have f:=E8 ok x hx;have it:=LG ok x hx;refine⟨⟨by have:=(Bz f.l1).2;omega,by have:=Gh f.data;omega,⟨by omega,fun i hi=>by have:=Gh (it.2 i hi);omega⟩,by have:=I5 f.own;omega,by have:=(Bz f.l2).2;omega⟩,Ht ok x hx,?_⟩;obtain⟨i,hi,e⟩:=List.mem_iff_getElem.1 hx;have e2:Aa lo i=x:=(AM hi).trans e;by_cases h0:i=0
 ·subst h0;have:=(Gv ok).2.2;rw[e2]at this;rw[this];exact Ro.of (by omega) (by omega)
 ·obtain⟨p,p1,p2,_⟩:=(Bv.1 ok).box i (by omega) hi;have p3:(Aa lo p).id=(Aa lo i).up:=p2;have hp:p<lo.length:=p1;have:=Ht ok _ (List.getElem_mem hp);rw[e2,AM hp]at p3;rw[<-p3];exact Ro.of (by omega) (by omega)
theorem IX.F(h:IX lt lo):La lt lo:=by
 cases h with
 |right h=>exact Mn h
 |up h u o d hu ho hd=>
  have f:=Mn h;refine⟨f.tn,by simpa using f.on,f.t,fun x hx=>?_⟩;rcases Eu hx with rfl|hx
  ·have:=f.o _ (List.getElem_mem hu);rw[<-ho]at this;exact⟨this.1,this.2.1,hd⟩
  ·exact f.o x hx
 |kind h u o d hu ho hd=>
  have f:=Mn h;refine⟨f.tn,by simpa using f.on,f.t,fun x hx=>?_⟩;rcases Eu hx with rfl|hx
  ·have:=f.o _ (List.getElem_mem hu);rw[<-ho]at this;exact this
  ·exact f.o x hx
 |made h X d ht hX hd=>
  have f:=Mn h;refine⟨by simpa using f.tn,f.on,fun x hx=>?_,f.o⟩;rcases Eu hx with rfl|hx
  ·have:=f.t _ (List.getElem_mem ht);rw[<-hX]at this;exact this
  ·exact f.t x hx
theorem La.data(h:La lt lo):∀x∈lo,x.data.size<=maxLen:=fun x hx=>by
 have:=(h.o x hx).1.2.1;unfold maxLen;omega
theorem Zq(a:Option Addr)(n cap:Nat)(w:World):Calls prog 4 #[.slice a n cap] w fun e w'=>e= .returned (.bool (decide (1048576<n)))/\w'=w:=by
 go_enter func4,ntmps4
 go_wp2;go_ret;refine⟨Ag ?_,rfl⟩;congr 1;apply propext;omega
theorem IX.S{lt:List Ae}{lo:List Ab}(h:IX lt lo):W6 lt lo:=by
 cases h with
 |right h=>exact W6.of h
 |up h u o d hu ho hd=>
  have f:=W6.of h;refine⟨f.tn,by simpa using f.on,fun x hx=>?_,fun x hx=>?_,f.thr⟩
  ·rcases Eu hx with rfl|hx
   ·have t:=f.data _ (List.getElem_mem hu);rw[<-ho]at t;exact t
   ·exact f.data x hx
  ·rcases Eu hx with rfl|hx
   ·have t:=f.id _ (List.getElem_mem hu);rw[<-ho]at t;exact t
   ·exact f.id x hx
 |kind h u o d hu ho hd=>
  have f:=W6.of h;refine⟨f.tn,by simpa using f.on,fun x hx=>?_,fun x hx=>?_,f.thr⟩
  ·rcases Eu hx with rfl|hx
   ·have t:=f.data _ (List.getElem_mem hu);rw[<-ho]at t;exact t
   ·exact f.data x hx
  ·rcases Eu hx with rfl|hx
   ·have t:=f.id _ (List.getElem_mem hu);rw[<-ho]at t;exact t
   ·exact f.id x hx
 |made h X d ht hX hd=>
  have f:=W6.of h;refine⟨by simpa using f.tn,f.on,f.data,f.id,fun x hx=>?_⟩;rcases Eu hx with rfl|hx
  ·have t:=f.thr _ (List.getElem_mem ht);rw[<-hX]at t;exact t
  ·exact f.thr x hx
variable {P:Nat}{w w':World}{s:Al}
theorem Pb(tmps:Array Value)(W:World)(P Q:Nat)(x y x0 x1 x2 x3 x4 x5 x6 x7 x8 x9:Value)(h:Ah W P (.cells #[x,y] 27))(h':Ah W Q (.cells #[x0,x1,x2,x3,x4,x5,x6,x7,x8,x9] 32))(h2:tmps[2]? =some (.pointer P))(h3:tmps[3]? =some (.pointer Q)):
 (results Tryz.f5 tmps).run prog W= .ok (.tuple #[.agg #[x,y],.agg #[x0,x1,x2,x3,x4,x5,x6,x7,x8,x9]]) W:=by
 obtain⟨y0,y1⟩:=h.two;obtain⟨z0,z1,z2,z3,z4,z5,z6,z7,z8,z9⟩:=h'.jE;simp[results,Tryz.results5,go_sem,h2,h3,y0,y1,z0,z1,z2,z3,z4,z5,z6,z7,z8,z9]
theorem Un{W:World}{Q:Nat}{o:Obj}(h:Ah W P o)(hne:Q≠P)(x0 x1 x2 x3 x4 x5 x6 x7 x8 x9:Value):Ah ((((((((((W.setCell ⟨Q,0,none⟩ x0).setCell ⟨Q,1,none⟩ x1).setCell ⟨Q,2,none⟩ x2).setCell ⟨Q,3,none⟩ x3).setCell ⟨Q,4,none⟩ x4).setCell ⟨Q,5,none⟩ x5).setCell ⟨Q,6,none⟩ x6).setCell ⟨Q,7,none⟩ x7).setCell ⟨Q,8,none⟩ x8).setCell ⟨Q,9,none⟩ x9) P o:=
 (((((((((h.other hne _).other hne _).other hne _).other hne _).other hne _).other hne _).other hne _).other hne _).other hne _).other hne _
theorem VX{B:Nat}{vt vo:Value}{lt:List Ae}{lo:List Ab}{y0 y1 y2 y3 y4 y5 y6 y7 y8 y9:Value}(h:By w B vt vo lt lo)(hb:Ah w P (.cells #[y0,y1,y2,y3,y4,y5,y6,y7,y8,y9] 32))(x0 x1 x2 x3 x4 x5 x6 x7 x8 x9:Value):By ((((((((((w.setCell ⟨P,0,none⟩ x0).setCell ⟨P,1,none⟩ x1).setCell ⟨P,2,none⟩ x2).setCell ⟨P,3,none⟩ x3).setCell ⟨P,4,none⟩ x4).setCell ⟨P,5,none⟩ x5).setCell ⟨P,6,none⟩ x6).setCell ⟨P,7,none⟩ x7).setCell ⟨P,8,none⟩ x8).setCell ⟨P,9,none⟩ x9) B vt vo lt lo:=by
 have h0:=hb.jB (i:=0) x0;have h1:=h0.jB (i:=1) x1;have h2:=h1.jB (i:=2) x2;have h3:=h2.jB (i:=3) x3;have h4:=h3.jB (i:=4) x4;have h5:=h4.jB (i:=5) x5;have h6:=h5.jB (i:=6) x6;have h7:=h6.jB (i:=7) x7;have h8:=h7.jB (i:=8) x8;exact(((((((((h.set hb (.inr rfl) x0).set h0 (.inr rfl) x1).set h1 (.inr rfl) x2).set h2 (.inr rfl) x3).set h3 (.inr rfl) x4).set h4 (.inr rfl) x5).set h5 (.inr rfl) x6).set h6 (.inr rfl) x7).set h7 (.inr rfl) x8).set h8 (.inr rfl) x9
def Al.own(s:Al)(w:World):Prop:=s.c1.new 0 w/\s.c2.new 0 w/\s.data.size<=100/\0<=s.id/\s.id<=1000000
theorem Al.own.at(h:s.own w):s.at w:=⟨h.1.1,h.2.1.1,Nat.le_trans h.2.2.1 (by unfold maxLen;omega)⟩
theorem Al.own.keeps(h:s.own w)(k:En w w'):s.own w':=⟨h.1.keeps k,h.2.1.keeps k,h.2.2⟩
theorem Al.own.below(h:s.own w)(k:Below w w w'):s.own w':=⟨h.1.below k,h.2.1.below k,h.2.2⟩
theorem Ri(a:Option Addr)(n cap:Nat)(w:World)(hn:n<=1048576)(hb:BytesAt w a n):
 Calls prog 5 #[.slice a n cap] w fun e w'=>∃(lt:List Ae) (lo:List Ab) (g ca q co:Nat) (s:Al),e= .returned (.tuple #[.agg #[.slice g lt.length ca,.slice q lo.length co],.agg s])/\By w' w (.slice g lt.length ca) (.slice q lo.length co) lt lo/\IX lt lo/\s.own w'/\Below w w w':=by
 have n1:No (.cells #[.int .i64 0,.int .i64 0,.int .i64 0,.int .i64 0,.int .i64 0,.string (ByteArray.mk #[]),.int .i64 0,.slice none 0 0,.int .i64 0,.slice none 0 0] 32):=⟨⟩;have n5:No (.cells #[.slice none 0 0,.slice none 0 0] 27):=⟨⟩;have v0:((w.alloc n5).alloc n1).heap.size=w.heap.size+2:=by simp
 have R0:Hid (Ah ((w.alloc n5).alloc n1) w n5):=hid ((Ah.new w _).alloc _);have S0:Hid (Ah ((w.alloc n5).alloc n1) (w.heap.size+1) n1):=hid (by have:=Ah.new (w.alloc n5) n1;simpa using this);have B0:Hid (Below w w ((w.alloc n5).alloc n1)):=hid ((Be w _).alloc (by simp) _);have HB:=hid (hb.below B0);clear hb;go_enter func5,ntmps5
 go_wp2_with fail
 generalize ((w.alloc n5).alloc n1)=V at *;refine(Uu a n cap V hn HB).mono ?_;rintro e w1 ⟨rb,rfl,r1⟩;have R1:=hid r1;have l1:=r1.lt;have le1:=r1.le;clear r1;go_wp2_with fail
 refine(Q8 V rb a n cap w1 R1).mono ?_;rintro e w2 ⟨lt,lo,g,ca,q,co,rfl,ks,kd,r2,g2⟩;have KD:=hid kd;have n2:Na #[.slice g lt.length ca,.slice q lo.length co]:=⟨⟩;have K3:=hid (ks.below (Be w2 (.cells n2 27)));have C3:=hid (Ah.new w2 (.cells n2 27));have R3:=hid (r2.below (Be w2 (.cells n2 27)));have c2:w.heap.size+1<w2.heap.size:=by have:=g2.size;omega
 have c3:rb<w2.heap.size:=by have:=g2.size;omega
 clear r2 ks kd g2 R1;go_wp2_with fail
 generalize w2.alloc (.cells n2 27)=W3 at *;generalize w2.heap.size=C at *;have n3:Nv (.slice g lt.length ca):=⟨⟩;have n4:Nv (.slice q lo.length co):=⟨⟩;have DR:Hid (By W3.drew w1 n3 n4 lt lo/\Ah W3.drew C (.cells n2 27)):=hid ⟨K3.out.below (Ay (Below.refl _ W3)),C3.out.below (Ay (Below.refl _ W3))⟩;have E1:Hid (∀args w,(callFunc 13 args).run prog w= .ok (.enter 13 args) w):=hid (enters_of func13 (by kernel_rfl) rfl);have FI:Hid (Calls prog 13 #[.pointer rb,.agg n2] W3.drew fun e w'=>∃v,e= .returned v/\(∃s:Al,v= .agg s/\s.own w'/\By w' w1 n3 n4 lt lo/\Ah w' C (.cells n2 27)/\Ah w' w n5/\Ah w' (w.heap.size+1) n1/\Below w w w')):=hid (by
  have rd:=R3.out.drew;refine(Oz V rb a n cap W3.drew rd lt lo g ca q co w1 DR.out.1 l1 KD.out.S).mono ?_;rintro e w' ⟨s,e1,hs,r,g'⟩;exact⟨_,e1,s,rfl,hs,DR.out.1.jX g' l1,DR.out.2.grown g' (by simp;omega),R0.out.below r.E,S0.out.below r.E,Af B0 r.E⟩)
 refine Am 5 (fun W=>By W w1 n3 n4 lt lo/\Ah W C (.cells n2 27)) (by kernel_rfl) ?_;refine tr 0 10 (.agg n2) DR ?_ (hy:=fun W h=>by obtain⟨z0,z1⟩:=h.2.two;go_simp);refine tr 1 11 (.pointer rb) DR ?_;refine tr 2 12 (.agg n2) DR ?_ (hy:=fun W h=>by obtain⟨z0,z1⟩:=h.2.two;go_simp);generalize W3.drew=WD at *;refine Ac (i:=3) (by kernel_rfl) rfl ?_;intro K hK;refine AJ (by rfl) 13 _ _ _ (by rfl) E1 _ _ (by rfl) (by rfl) (some 13) (by rfl) _ FI ?_;rintro v w4 ⟨s,rfl,hs,hk,hC,hR,hS,hB⟩;have KX:=hid hk;have RX:=hid hR;have SX:=hid hS;have BX:=hid hB;have HX:=hid hs;have CX:=hid hC;refine hK _ _ (fun _=>⟨KX,hC⟩) ?_;clear hK K hS hR hB hs hk hC;simp only[ap,List.set];obtain⟨r0,r1⟩:=RX.out.two;have rf:=RX.out.jC;refine Ac (i:=4) (by kernel_rfl) rfl ?_;intro K hK;go_simp;have cne:w.heap.size≠C:=by omega
 refine hK _ _ (fun _=>⟨(KX.out.set RX (.inl rfl) _).set (RX.out.jB (i:=0) _) (.inl rfl) _,(CX.out.other cne _).other cne _⟩) ?_;clear hK K r0 r1 rf;try simp only[ap,List.set]
 have ne:w.heap.size≠w.heap.size+1:=by omega
 have S4:=hid ((SX.out.other (i:=0) ne n3).other (i:=1) ne n4);have R4:=hid ((RX.out.jB (i:=0) n3).jB (i:=1) n4);have K4:=hid ((KX.out.set RX (.inl rfl) (i:=0) n3).set (RX.out.jB (i:=0) _) (.inl rfl) (i:=1) n4);have B4:Hid (Below w w ((w4.setCell ⟨w,0,none⟩ n3).setCell ⟨w,1,none⟩ n4)):=hid ((BX.out.setCell nr _).setCell nr _);have H4:=hid ((HX.out.keeps (As (i:=0) RX (by decide) n3)).keeps (As (i:=1) (RX.out.jB (i:=0) _) (by decide) n4));clear SX RX KX BX HX;generalize (w4.setCell ⟨w,0,none⟩ n3).setCell ⟨w,1,none⟩ n4=w5 at *;obtain⟨s0,s1,s2,s3,s4,s5,s6,s7,s8,s9⟩:=S4.out.jE;have sf:=S4.out.jC;refine Ac (i:=5) (by kernel_rfl) rfl ?_;intro K hK;go_simp;refine hK _ _ (fun h=>absurd h (by decide)) ?_;clear hK K s0 s1 s2 s3 s4 s5 s6 s7 s8 s9 sf;refine Ai (by kernel_rfl) ?_ _;go_wp2;have n6:Nv (.slice s.c1.a s.c1.n s.c1.k):=⟨⟩;have n7:Nv (.slice s.c2.a s.c2.n s.c2.k):=⟨⟩;refine bodyPost_ret (Pb _ _ w (w.heap.size+1) _ _ _ _ _ _ _ _ _ _ _ _ (Un R4 (Ne.symm ne) (.int .i64 s.th) (.int .i64 s.kind) (.int .i64 s.id) (.int .i64 s.to) (.int .i64 s.cat) (.string s.data) (.int .i64 s.b1) n6 (.int .i64 s.b2) n7) (LR S4 (.int .i64 s.th) (.int .i64 s.kind) (.int .i64 s.id) (.int .i64 s.to) (.int .i64 s.cat) (.string s.data) (.int .i64 s.b1) n6 (.int .i64 s.b2) n7) rfl rfl) rfl ⟨lt,lo,g,ca,q,co,s,rfl,?_,KD,?_,?_⟩
 ·exact VX (K4.out.base (by omega)) S4 (.int .i64 s.th) (.int .i64 s.kind) (.int .i64 s.id) (.int .i64 s.to) (.int .i64 s.cat) (.string s.data) (.int .i64 s.b1) n6 (.int .i64 s.b2) n7
 ·exact H4.out.keeps (Jk S4 (by decide) (.int .i64 s.th) (.int .i64 s.kind) (.int .i64 s.id) (.int .i64 s.to) (.int .i64 s.cat) (.string s.data) (.int .i64 s.b1) n6 (.int .i64 s.b2) n7)
 ·exact ae B4 (by omega) (.int .i64 s.th) (.int .i64 s.kind) (.int .i64 s.id) (.int .i64 s.to) (.int .i64 s.cat) (.string s.data) (.int .i64 s.b1) n6 (.int .i64 s.b2) n7
section
variable {k:Ax} (ok:Bd k=true)
include ok
end
variable {X:Ae}{s:Al}{lt lt':List Ae}{lo lo':List Ab}{t u:Nat}{c:Int}{tx:ByteArray}
def Au.nm(c:Au):Au:=⟨none,c.n,0,c.f,c.g⟩
def AI.nm(c:AI):AI:=⟨none,c.n,0,c.h⟩
def AF.nm(c:AF):AF:=⟨none,c.n,0,c.f⟩
def Ae.nm(x:Ae):Ae:=⟨x.id,x.b1,x.c1.nm,x.b2,x.c2.nm,x.own.nm,x.made⟩
def Ab.nm(x:Ab):Ab:=⟨x.id,x.kind,x.up,x.b1,x.c1.nm,x.data,x.jA.nm,x.own.nm,x.b2,x.c2.nm⟩
def Au.eqv(c d:Au):Prop:=d.n=c.n/\∀i,i<c.n->d.f i=c.f i/\d.g i=c.g i
def AI.eqv(c d:AI):Prop:=d.n=c.n/\∀i,i<c.n->d.h i=c.h i
def AF.eqv(c d:AF):Prop:=d.n=c.n/\∀i,i<c.n->d.f i=c.f i
def Ae.eqv(x y:Ae):Prop:=y.id=x.id/\y.b1=x.b1/\x.c1.eqv y.c1/\y.b2=x.b2/\x.c2.eqv y.c2/\x.own.eqv y.own/\y.made=x.made
def Ab.eqv(x y:Ab):Prop:=y.id=x.id/\y.kind=x.kind/\y.up=x.up/\y.b1=x.b1/\x.c1.eqv y.c1/\y.data=x.data/\x.jA.eqv y.jA/\x.own.eqv y.own/\y.b2=x.b2/\x.c2.eqv y.c2
theorem Ae.eqv.refl(x:Ae):x.eqv x:=⟨rfl,rfl,⟨rfl,fun _ _=>⟨rfl,rfl⟩⟩,rfl,⟨rfl,fun _ _=>⟨rfl,rfl⟩⟩,⟨rfl,fun _ _=>rfl⟩,rfl⟩
theorem Ab.eqv.refl(x:Ab):x.eqv x:=⟨rfl,rfl,rfl,rfl,⟨rfl,fun _ _=>⟨rfl,rfl⟩⟩,rfl,⟨rfl,fun _ _=>rfl⟩,⟨rfl,fun _ _=>rfl⟩,rfl,⟨rfl,fun _ _=>⟨rfl,rfl⟩⟩⟩
def SC(l m:List Ae):Prop:=m.length=l.length/\∀j,j<l.length->(AY l j).eqv (AY m j)
def Rn(l m:List Ab):Prop:=m.length=l.length/\∀j,j<l.length->(Aa l j).eqv (Aa m j)
theorem SC.refl(l:List Ae):SC l l:=⟨rfl,fun _ _=> .refl _⟩
theorem Rn.refl(l:List Ab):Rn l l:=⟨rfl,fun _ _=> .refl _⟩
theorem Ia(lo:List Ab)(i:Nat):Aa (lo.map Ab.nm) i=(Aa lo i).nm:=by
 unfold Aa;rw[List.getD_eq_getElem?_getD,List.getD_eq_getElem?_getD,List.getElem?_map];cases lo[i]?<;>rfl
theorem YJ(lt:List Ae)(i:Nat):AY (lt.map Ae.nm) i=(AY lt i).nm:=by
 unfold AY;rw[List.getD_eq_getElem?_getD,List.getD_eq_getElem?_getD,List.getElem?_map];cases lt[i]?<;>rfl
theorem Mg(lo:List Ab)(x:Int):Hf (lo.map Ab.nm) x=Hf lo x:=by
 unfold Hf;rw[List.length_map];congr 1;funext i;rw[Ia];rfl
theorem Vi(lt:List Ae)(x:Int):Tb (lt.map Ae.nm) x=Tb lt x:=by
 unfold Tb;rw[List.length_map];congr 1;funext i;rw[YJ];rfl
theorem Cv(X:Ae)(lo:List Ab)(x k:Int):Cd X.nm (lo.map Ab.nm) x k=Cd X lo x k:=by
 unfold Cd;rw[Mg];cases Hf lo x with
 |none=>rfl
 |some u=>simp only;rw[Ia];rfl
theorem av(o:Ab):∀lo:List Ab,(Bm o lo).map Ab.nm=Bm o.nm (lo.map Ab.nm)
 |[]=>rfl
 |x::r=>by
  have ih:=av o r;by_cases h:o.id<x.id
  ·have a:Bm o (x::r)=o::x::r:=(by simp[Bm,h]);have b:Bm o.nm ((x::r).map Ab.nm)=o.nm::x.nm::r.map Ab.nm:=by
    show(if o.nm.id<x.nm.id then _ else _)=_;rw[if_pos (show o.nm.id<x.nm.id from h)]
   rw[a,b];rfl
  ·have a:Bm o (x::r)=x::Bm o r:=(by simp[Bm,h]);have b:Bm o.nm ((x::r).map Ab.nm)=x.nm::Bm o.nm (r.map Ab.nm):=by
    show(if o.nm.id<x.nm.id then _ else _)=_;rw[if_neg (show ¬o.nm.id<x.nm.id from h)]
   rw[a,b,<-ih];rfl
theorem bo(lo:List Ab)(u:Nat):BZ (lo.map Ab.nm) u=BZ lo u:=by
 unfold BZ;have e1:(fun i=>(Aa (lo.map Ab.nm) i).id)=fun i=>(Aa lo i).id:=by funext i;rw[Ia];rfl
 have e2:(fun i=>(Aa (lo.map Ab.nm) i).up)=fun i=>(Aa lo i).up:=by funext i;rw[Ia];rfl
 rw[e1,e2,List.length_map]
theorem bw(G:List Int)(lo:List Ab)(j:Nat):(Eo G lo j).map Ab.nm=Eo G (lo.map Ab.nm) j:=by
 unfold Eo;rw[<-List.map_take,List.filter_map];rfl
theorem bW(lo:List Ab)(x:Int)(n:Nat):JL (Aa (lo.map Ab.nm)) x n=JL (Aa lo) x n:=by
 unfold JL;have e1:(fun i=>(Aa (lo.map Ab.nm) i).id)=fun i=>(Aa lo i).id:=by funext i;rw[Ia];rfl
 have e2:(fun j=>(Aa (lo.map Ab.nm) j).up==x)=fun j=>(Aa lo j).up==x:=by funext i;rw[Ia];rfl
 rw[e1,e2]
theorem TZ(X:Ae)(s:Al)(lo:List Ab):Gc X.nm s (lo.map Ab.nm)=Gc X s lo:=by
 unfold Gc;rw[Mg];cases Hf lo s.id with
 |none=>rfl
 |some u=>simp only;rw[Ia];rfl
theorem Xh(X:Ae)(lo:List Ab)(x:Int):Ij X.nm (lo.map Ab.nm) x=Ij X lo x:=by
 unfold Ij;rw[Mg];cases Hf lo x with
 |none=>rfl
 |some u=>
  simp only;rw[Ia];show(decide (0<u)&&match Hf (lo.map Ab.nm) (Aa lo u).up with|some p=>_|none=>false)=_;rw[Mg];cases Hf lo (Aa lo u).up with
  |none=>rfl
  |some p=>simp only;rw[Ia];rfl
theorem Xc(h:FV X s lt lo t c tx lt' lo'):FV X.nm s (lt.map Ae.nm) (lo.map Ab.nm) t c tx (lt'.map Ae.nm) (lo'.map Ab.nm):=by
 cases h with
 |k1 h x e1 e2 p=>
  refine .k1 h x.nm (by rw[e1,List.map_set]) (by rw[e2]) ?_;rcases p with⟨a,b,rfl,d⟩|⟨a,b,d,a1,cc,rfl⟩
  ·exact .inl ⟨a,b,rfl,d⟩
  ·exact .inr ⟨a,b,d,none,0,rfl⟩
 |k12 h x e1 e2 e3 p=>
  refine .k12 h x.nm (by rw[e1,List.map_set]) (by rw[e2]) e3 ?_;rcases p with⟨a,b,rfl⟩|⟨a,b,d,e,rfl⟩
  ·exact .inl ⟨a,b,rfl⟩
  ·exact .inr ⟨a,b,d.nm,e,rfl⟩
 |k14 h x e1 e2 e3 p=>
  refine .k14 h x.nm (by rw[e1,List.map_set]) (by rw[e2]) e3 ?_;rcases p with⟨a,b,rfl⟩|⟨a,b,a1,cc,rfl⟩
  ·exact .inl ⟨a,b,rfl⟩
  ·exact .inr ⟨a,b,none,0,rfl⟩
 |make h p=>
  refine .make h ?_;rcases p with⟨a,b,d,rfl,rfl⟩|⟨a,b,d,e,rfl,rfl⟩|⟨a,b,d,e,rfl,d1,d2,ow,s1,s2,s3,rfl⟩
  ·exact .inl ⟨a,by rw[TZ];exact b,d,rfl,rfl⟩
  ·exact .inr (.inl ⟨a,by rw[TZ];exact b,d,e,rfl,rfl⟩)
  ·refine .inr (.inr ⟨a,by rw[TZ];exact b,d,e,by rw[List.map_set];rfl,d1.nm,d2.nm,ow.nm,s1,?_,?_,by rw[av];rfl⟩)
   ·by_cases h5:s.kind=5
    ·rw[if_pos h5]at s2 ⊢;exact s2
    ·rw[if_neg h5]at s2 ⊢;rw[s2];rfl
   ·by_cases h5:0<s.cat
    ·rw[if_pos h5]at s3 ⊢;exact s3
    ·rw[if_neg h5]at s3 ⊢;rw[s3];rfl
 |drop h e1 e3 p=>
  refine .drop h (by rw[e1]) e3 ?_;rcases p with⟨a,b,rfl⟩|⟨a,b,u,d,e,rfl⟩
  ·exact .inl ⟨a,by rw[Xh];exact b,rfl⟩
  ·exact .inr ⟨a,by rw[Xh];exact b,u,by rw[Mg];exact d,e,by rw[bw,bo,List.length_map]⟩
 |k6 h p=>
  refine .k6 h ?_;rcases p with⟨a,b,d,rfl,rfl⟩|⟨u,a,⟨b,d,e,rfl,rfl⟩|⟨b,d,e,rfl,rfl⟩⟩
  ·exact .inl ⟨by rw[Cv];exact a,b,d,rfl,rfl⟩
  ·exact .inr ⟨u,by rw[Cv];exact a,.inl ⟨by rw[Ia];exact b,d,e,rfl,rfl⟩⟩
  ·exact .inr ⟨u,by rw[Cv];exact a,.inr ⟨by rw[Ia];exact b,d,e,rfl,by rw[List.map_set,Ia];rfl⟩⟩
 |k7 h p=>
  refine .k7 h ?_;rcases p with⟨a,b,d,rfl,rfl⟩|⟨u,a,b,d,rfl,rfl⟩
  ·exact .inl ⟨by rw[Cv];exact a,b,d,rfl,rfl⟩
  ·exact .inr ⟨u,by rw[Cv];exact a,b,by rw[Ia];exact d,rfl,rfl⟩
 |k8 h p=>
  refine .k8 h ?_;rcases p with⟨a,b,d,rfl,rfl⟩|⟨u,a,⟨b,d,e,rfl,rfl⟩|⟨p,b,⟨d,e,f,rfl,rfl⟩|⟨d,e,f,g,rfl,rfl⟩⟩⟩
  ·exact .inl ⟨by rw[Cv];exact a,b,d,rfl,rfl⟩
  ·exact .inr ⟨u,by rw[Cv];exact a,.inl ⟨by rw[Mg];exact b,d,e,rfl,rfl⟩⟩
  ·exact .inr ⟨u,by rw[Cv];exact a,.inr ⟨p,by rw[Mg];exact b,.inl ⟨by rw[Ia];exact d,e,f,rfl,rfl⟩⟩⟩
  ·exact .inr ⟨u,by rw[Cv];exact a,.inr ⟨p,by rw[Mg];exact b,.inr ⟨by rw[Ia];exact d,by rw[Ia];exact e,f,g,rfl,by rw[List.map_set,Ia,Ia];rfl⟩⟩⟩
 |k9 h p=>
  refine .k9 h ?_;rcases p with⟨a,b,d,rfl,rfl⟩|⟨u,a,⟨b,d,e,rfl,rfl⟩|⟨b,d,e,f,rfl,rfl⟩|⟨b,d,e,f,rfl,a1,c1,rfl⟩⟩
  ·exact .inl ⟨by rw[Cv];exact a,b,d,rfl,rfl⟩
  ·exact .inr ⟨u,by rw[Cv];exact a,.inl ⟨by rw[Ia];exact b,d,e,rfl,rfl⟩⟩
  ·exact .inr ⟨u,by rw[Cv];exact a,.inr (.inl ⟨by rw[Ia];exact b,by rw[Ia];exact d,e,f,rfl,rfl⟩)⟩
  ·exact .inr ⟨u,by rw[Cv];exact a,.inr (.inr ⟨by rw[Ia];exact b,by rw[Ia];exact d,e,f,rfl,none,0,by rw[List.map_set,Ia];rfl⟩)⟩
 |k10 h p=>
  refine .k10 h ?_;rcases p with⟨a,b,d,rfl,rfl⟩|⟨u,a,⟨b,d,e,rfl,rfl⟩|⟨b,d,e,f,rfl,rfl⟩|⟨b,d,e,f,rfl,a1,c1,rfl⟩⟩
  ·exact .inl ⟨by rw[Cv];exact a,b,d,rfl,rfl⟩
  ·exact .inr ⟨u,by rw[Cv];exact a,.inl ⟨by rw[Ia];exact b,d,e,rfl,rfl⟩⟩
  ·exact .inr ⟨u,by rw[Cv];exact a,.inr (.inl ⟨by rw[Ia];exact b,by rw[Ia];exact d,e,f,rfl,rfl⟩)⟩
  ·exact .inr ⟨u,by rw[Cv];exact a,.inr (.inr ⟨by rw[Ia];exact b,by rw[Ia];exact d,e,by rw[Ia];exact f,rfl,none,0,by rw[List.map_set,Ia];rfl⟩)⟩
 |k13 h p=>
  refine .k13 h ?_;rcases p with⟨a,b,d,rfl,rfl⟩|⟨u,a,⟨b,d,e,rfl,rfl⟩|⟨b,d,e,f,rfl,rfl⟩|⟨b,d,e,f,a1,c1,rfl,rfl⟩⟩
  ·exact .inl ⟨by rw[Cv];exact a,b,d,rfl,rfl⟩
  ·exact .inr ⟨u,by rw[Cv];exact a,.inl ⟨by rw[Ia];exact b,d,e,rfl,rfl⟩⟩
  ·exact .inr ⟨u,by rw[Cv];exact a,.inr (.inl ⟨by rw[Ia];exact b,by rw[Ia];exact d,e,f,rfl,rfl⟩)⟩
  ·exact .inr ⟨u,by rw[Cv];exact a,.inr (.inr ⟨by rw[Ia];exact b,by rw[Ia];exact d,e,f,none,0,by rw[List.map_set,Ia];rfl,rfl⟩)⟩
 |k15 h p=>
  refine .k15 h ?_;rcases p with⟨a,b,d,rfl,rfl⟩|⟨u,a,b,d,rfl,rfl⟩
  ·exact .inl ⟨by rw[Cv];exact a,b,d,rfl,rfl⟩
  ·exact .inr ⟨u,by rw[Cv];exact a,b,by rw[bW,List.length_map];exact d,rfl,rfl⟩
theorem YD{l:List Ab}{x y:Ab}(h:x.eqv y):Rn (l.set u x) (l.set u y):=by
 refine⟨by simp,fun j hj=>?_⟩;have hj':j<l.length:=by simpa using hj
 unfold Aa;by_cases e:j=u
 ·subst e;simp[hj'];exact h
 ·have:u≠j:=fun h=>e h.symm;simp[this];exact .refl _
theorem MZ{l:List Ae}{x y:Ae}(h:x.eqv y):SC (l.set u x) (l.set u y):=by
 refine⟨by simp,fun j hj=>?_⟩;have hj':j<l.length:=by simpa using hj
 unfold AY;by_cases e:j=u
 ·subst e;simp[hj'];exact h
 ·have:u≠j:=fun h=>e h.symm;simp[this];exact .refl _
theorem Ve{o o2:Ab}(h:o.eqv o2):∀lo,Rn (Bm o lo) (Bm o2 lo)
 |[]=>⟨rfl,fun j hj=>by
  have e:j=0:=by simp[Bm]at hj;omega
  subst e;exact h⟩
 |x::r=>by
  have ih:=Ve h r;have e:o2.id=o.id:=h.1;by_cases hx:o.id<x.id
  ·have a:Bm o (x::r)=o::x::r:=(by simp[Bm,hx]);have b:Bm o2 (x::r)=o2::x::r:=(by simp[Bm,e,hx]);rw[a,b];refine⟨rfl,fun j hj=>?_⟩;cases j with
   |zero=>exact h
   |succ j=>exact .refl _
  ·have a:Bm o (x::r)=x::Bm o r:=(by simp[Bm,hx]);have b:Bm o2 (x::r)=x::Bm o2 r:=(by simp[Bm,e,hx]);rw[a,b];refine⟨by simp[ih.1],fun j hj=>?_⟩;cases j with
   |zero=>exact .refl _
   |succ j=>exact ih.2 j (by simpa using hj)
def Vg(c c2:Int)(tx tx2:ByteArray)(lt lt2:List Ae)(lo lo2:List Ab):Prop:=c2=c/\tx2=tx/\SC lt lt2/\Rn lo lo2
theorem Bh:Vg c c tx tx lt lt lo lo:=⟨rfl,rfl,.refl _,.refl _⟩
theorem Au.eqv.of_same{c d e:Au}(h:c.same d)(h2:c.same e):d.eqv e:=⟨h2.1.trans h.1.symm,fun _ _=>⟨by rw[h2.2.1,h.2.1],by rw[h2.2.2,h.2.2]⟩⟩
theorem Wq{c2:Int}{tx2:ByteArray}{lt2:List Ae}{lo2:List Ab}(h:FV X s lt lo t c tx lt' lo')(h2:FV X s lt lo t c2 tx2 lt2 lo2):Vg c c2 tx tx2 lt' lt2 lo' lo2:=by
 cases h with
 |k1 h x e1 e2 p=>
  cases h2;all_goals try(exfalso;omega)
  rename_i h' x2 f1 f2 p2;subst e1 e2 f1 f2;rcases p with⟨rfl,a,rfl,rfl⟩|⟨rfl,a,rfl,a1,c1,rfl⟩<;>rcases p2 with⟨rfl,b,rfl,rfl⟩|⟨rfl,b,rfl,a2,cc2,rfl⟩
  ·exact Bh
  ·exact absurd a b
  ·exact absurd b a
  ·exact⟨rfl,rfl,MZ (.refl _),.refl _⟩
 |k12 h x e1 e2 e3 p=>
  cases h2;all_goals try(exfalso;omega)
  rename_i h' x2 f1 f2 f3 p2;subst e1 e2 f1 f2 e3 f3;rcases p with⟨rfl,a,rfl⟩|⟨rfl,a,d,sd,rfl⟩<;>rcases p2 with⟨rfl,b,rfl⟩|⟨rfl,b,d2,sd2,rfl⟩
  ·exact Bh
  ·rw[a]at b;cases b
  ·rw[a]at b;cases b
  ·exact⟨rfl,rfl,MZ ⟨rfl,rfl,.of_same sd sd2,rfl,⟨rfl,fun _ _=>⟨rfl,rfl⟩⟩,⟨rfl,fun _ _=>rfl⟩,rfl⟩,.refl _⟩
 |k14 h x e1 e2 e3 p=>
  cases h2;all_goals try(exfalso;omega)
  rename_i h' x2 f1 f2 f3 p2;subst e1 e2 f1 f2 e3 f3;rcases p with⟨rfl,a,rfl⟩|⟨rfl,a,a1,c1,rfl⟩<;>rcases p2 with⟨rfl,b,rfl⟩|⟨rfl,b,a2,cc2,rfl⟩
  ·exact Bh
  ·rw[a]at b;cases b
  ·rw[a]at b;cases b
  ·exact⟨rfl,rfl,MZ (.refl _),.refl _⟩
 |make h p=>
  cases h2;all_goals try(exfalso;omega)
  rename_i h' p2;rcases p with⟨rfl,a,rfl,rfl,rfl⟩|⟨rfl,a,a',rfl,rfl,rfl⟩|⟨rfl,a,a',rfl,rfl,d1,d2,ow,s1,s2,s3,rfl⟩<;>rcases p2 with⟨rfl,b,rfl,rfl,rfl⟩|⟨rfl,b,b',rfl,rfl,rfl⟩|⟨rfl,b,b',rfl,rfl,f1,f2,ow2,r1,r2,r3,rfl⟩
  ·exact Bh
  ·rw[a]at b;cases b
  ·rw[a]at b;cases b
  ·rw[a]at b;cases b
  ·exact Bh
  ·exact absurd a' b'
  ·rw[a]at b;cases b
  ·exact absurd b' a'
  ·refine⟨rfl,rfl,.refl _,Ve (o:=newObj X s d1 d2 ow) (o2:=newObj X s f1 f2 ow2) ⟨rfl,rfl,rfl,rfl,.of_same s1 r1,rfl,⟨rfl,fun _ _=>rfl⟩,?_,rfl,?_⟩ lo⟩
   ·by_cases h5:0<s.cat
    ·rw[if_pos h5]at s3 r3;refine⟨r3.1.trans s3.1.symm,fun i hi=>?_⟩;have hi':i<ow.n:=hi;have e:i=0:=(by omega);subst e;exact r3.2.trans s3.2.symm
    ·rw[if_neg h5]at s3 r3;rw[s3,r3];exact⟨rfl,fun _ _=>rfl⟩
   ·by_cases h5:s.kind=5
    ·rw[if_pos h5]at s2 r2;exact .of_same s2 r2
    ·rw[if_neg h5]at s2 r2;rw[s2,r2];exact⟨rfl,fun _ _=>⟨rfl,rfl⟩⟩
 |drop h e1 e3 p=>
  cases h2;all_goals try(exfalso;omega)
  rename_i h' f1 f3 p2;subst e1 f1 e3 f3;rcases p with⟨rfl,a,rfl⟩|⟨rfl,a,u,a1,a2,rfl⟩<;>rcases p2 with⟨rfl,b,rfl⟩|⟨rfl,b,u2,b1,b2,rfl⟩
  ·exact Bh
  ·rw[a]at b;cases b
  ·rw[a]at b;cases b
  ·rw[a1]at b1;cases b1;exact Bh
 |k6 h p=>
  cases h2;all_goals try(exfalso;omega)
  rename_i h' p2;rcases p with⟨a,rfl,rfl,rfl,rfl⟩|⟨u,a,⟨a1,rfl,rfl,rfl,rfl⟩|⟨a1,rfl,rfl,rfl,rfl⟩⟩<;>rcases p2 with⟨b,rfl,rfl,rfl,rfl⟩|⟨u2,b,⟨b1,rfl,rfl,rfl,rfl⟩|⟨b1,rfl,rfl,rfl,rfl⟩⟩<;>first|exact Bh|(rw[a]at b;cases b;done)|(rw[a]at b;cases b;first|exact Bh|(rw[a1]at b1;cases b1))
 |k7 h p=>
  cases h2;all_goals try(exfalso;omega)
  rename_i h' p2;rcases p with⟨a,rfl,rfl,rfl,rfl⟩|⟨u,a,rfl,rfl,rfl,rfl⟩<;>rcases p2 with⟨b,rfl,rfl,rfl,rfl⟩|⟨u2,b,rfl,rfl,rfl,rfl⟩<;>first|exact Bh|(rw[a]at b;cases b;done)|(rw[a]at b;cases b;exact Bh)
 |k8 h p=>
  cases h2;all_goals try(exfalso;omega)
  rename_i h' p2;rcases p with⟨a,rfl,rfl,rfl,rfl⟩|⟨u,a,⟨a1,rfl,rfl,rfl,rfl⟩|⟨q,a1,⟨a2,rfl,rfl,rfl,rfl⟩|⟨a2,a3,rfl,rfl,rfl,rfl⟩⟩⟩<;>rcases p2 with⟨b,rfl,rfl,rfl,rfl⟩|⟨u2,b,⟨b1,rfl,rfl,rfl,rfl⟩|⟨q2,b1,⟨b2,rfl,rfl,rfl,rfl⟩|⟨b2,b3,rfl,rfl,rfl,rfl⟩⟩⟩<;>first|exact Bh|(rw[a]at b;cases b;done)|(rw[a]at b;cases b;first|exact Bh|(rw[a1]at b1;cases b1;done)|(rw[a1]at b1;cases b1;first|exact Bh|(exfalso;rcases a2 with h|h;exact h b2;rw[h]at b3;cases b3)|(exfalso;rcases b2 with h|h;exact h a2;rw[h]at a3;cases a3)))
 |k9 h p=>
  cases h2;all_goals try(exfalso;omega)
  rename_i h' p2;rcases p with⟨a,rfl,rfl,rfl,rfl⟩|⟨u,a,⟨a1,rfl,rfl,rfl,rfl⟩|⟨a1,a2,rfl,rfl,rfl,rfl⟩|⟨a1,a2,rfl,rfl,rfl,m1,m2,rfl⟩⟩<;>rcases p2 with⟨b,rfl,rfl,rfl,rfl⟩|⟨u2,b,⟨b1,rfl,rfl,rfl,rfl⟩|⟨b1,b2,rfl,rfl,rfl,rfl⟩|⟨b1,b2,rfl,rfl,rfl,n1,n2,rfl⟩⟩<;>first|exact Bh|(rw[a]at b;cases b;done)|(rw[a]at b;cases b;first|exact Bh|(rw[a1]at b1;cases b1;done)|exact absurd a2 b2|exact absurd b2 a2|exact⟨rfl,rfl,.refl _,YD ⟨rfl,rfl,rfl,rfl,⟨rfl,fun _ _=>⟨rfl,rfl⟩⟩,rfl,⟨rfl,fun _ _=>rfl⟩,⟨rfl,fun _ _=>rfl⟩,rfl,⟨rfl,fun _ _=>⟨rfl,rfl⟩⟩⟩⟩)
 |k10 h p=>
  cases h2;all_goals try(exfalso;omega)
  rename_i h' p2;rcases p with⟨a,rfl,rfl,rfl,rfl⟩|⟨u,a,⟨a1,rfl,rfl,rfl,rfl⟩|⟨a1,a2,rfl,rfl,rfl,rfl⟩|⟨a1,a2,rfl,rfl,rfl,m1,m2,rfl⟩⟩<;>rcases p2 with⟨b,rfl,rfl,rfl,rfl⟩|⟨u2,b,⟨b1,rfl,rfl,rfl,rfl⟩|⟨b1,b2,rfl,rfl,rfl,rfl⟩|⟨b1,b2,rfl,rfl,rfl,n1,n2,rfl⟩⟩<;>first|exact Bh|(rw[a]at b;cases b;done)|(rw[a]at b;cases b;first|exact Bh|(rw[a1]at b1;cases b1;done)|exact absurd a2 b2|exact absurd b2 a2|exact⟨rfl,rfl,.refl _,YD ⟨rfl,rfl,rfl,rfl,⟨rfl,fun _ _=>⟨rfl,rfl⟩⟩,rfl,⟨rfl,fun _ _=>rfl⟩,⟨rfl,fun _ _=>rfl⟩,rfl,⟨rfl,fun _ _=>⟨rfl,rfl⟩⟩⟩⟩)
 |k13 h p=>
  cases h2;all_goals try(exfalso;omega)
  rename_i h' p2;rcases p with⟨a,rfl,rfl,rfl,rfl⟩|⟨u,a,⟨a1,rfl,rfl,rfl,rfl⟩|⟨a1,a2,rfl,rfl,rfl,rfl⟩|⟨a1,a2,rfl,rfl,m1,m2,rfl,rfl⟩⟩<;>rcases p2 with⟨b,rfl,rfl,rfl,rfl⟩|⟨u2,b,⟨b1,rfl,rfl,rfl,rfl⟩|⟨b1,b2,rfl,rfl,rfl,rfl⟩|⟨b1,b2,rfl,rfl,n1,n2,rfl,rfl⟩⟩<;>first|exact Bh|(rw[a]at b;cases b;done)|(rw[a]at b;cases b;first|exact Bh|(rw[a1]at b1;cases b1;done)|exact absurd a2 b2|exact absurd b2 a2|exact⟨rfl,rfl,MZ (.refl _),.refl _⟩)
 |k15 h p=>
  cases h2;all_goals try(exfalso;omega)
  rename_i h' p2;rcases p with⟨a,rfl,rfl,rfl,rfl⟩|⟨u,a,rfl,rfl,rfl,rfl⟩<;>rcases p2 with⟨b,rfl,rfl,rfl,rfl⟩|⟨u2,b,rfl,rfl,rfl,rfl⟩<;>first|exact Bh|(rw[a]at b;cases b;done)|(rw[a]at b;cases b;exact Bh)
variable {B M P:Nat}{w w':World}{c:Au}{vt vo:Value}{lt:List Ae}{lo:List Ab}
def Au.bs(c:Au):List Nat:=if 0<c.n then(match c.a with|some p=>[p.block]|none=>[])else[]
def AI.bs(c:AI):List Nat:=if 0<c.n then(match c.a with|some p=>[p.block]|none=>[])else[]
def AF.bs(c:AF):List Nat:=if 0<c.n then(match c.a with|some p=>[p.block]|none=>[])else[]
theorem Au.new.bs(h:c.new B w):c.bs.Nodup/\∀b∈c.bs,B<=b/\b<w.heap.size:=by
 unfold Au.bs;split
 ·rename_i h0;obtain⟨b,m,F,e,h1,_,h3⟩:=h.2 h0;rw[e];exact⟨by simp,fun x hx=>by rw[List.mem_singleton.1 hx];exact⟨h1,h3.lt⟩⟩
 ·exact⟨by simp,fun x hx=>by cases hx⟩
theorem AI.new.bs{c:AI}(h:c.new B w):c.bs.Nodup/\∀b∈c.bs,B<=b/\b<w.heap.size:=by
 unfold AI.bs;split
 ·rename_i h0;obtain⟨b,m,F,e,h1,_,h3⟩:=h.2 h0;rw[e];exact⟨by simp,fun x hx=>by rw[List.mem_singleton.1 hx];exact⟨h1,h3.lt⟩⟩
 ·exact⟨by simp,fun x hx=>by cases hx⟩
theorem AF.new.bs{c:AF}(h:c.new B w):c.bs.Nodup/\∀b∈c.bs,B<=b/\b<w.heap.size:=by
 unfold AF.bs;split
 ·rename_i h0;obtain⟨b,m,F,e,h1,_,h3⟩:=h.2 h0;rw[e];exact⟨by simp,fun x hx=>by rw[List.mem_singleton.1 hx];exact⟨h1,h3.lt⟩⟩
 ·exact⟨by simp,fun x hx=>by cases hx⟩
theorem Dg{l1 l2:List Nat}(h1:l1.Nodup)(h2:l2.Nodup)(a:∀x∈l1,x<M)(b:∀x∈l2,M<=x):(l1++l2).Nodup:=by
 rw[List.nodup_append];exact⟨h1,h2,fun x hx y hy e=>by have:=a x hx;have:=b y hy;omega⟩
def Ae.cb(t:Ae):List Nat:=t.c1.bs++t.c2.bs
def Ab.cb(t:Ab):List Nat:=t.c1.bs++t.c2.bs
theorem Au.new.past(h:c.new B w)(hg:w.grownBy w' (some P))(hP:P<B):c.new B w':=h.of hg.size (fun b e h0=>by
 obtain⟨b',m,F,e',h1,_,hr⟩:=h.2 h0;rw[e]at e';cases e';exact hg.block b hr.lt (fun e=>by have:=Option.some.inj e;omega))
theorem AI.new.past{c:AI}(h:c.new B w)(hg:w.grownBy w' (some P))(hP:P<B):c.new B w':=h.of hg.size (fun b e h0=>by
 obtain⟨b',m,F,e',h1,_,hr⟩:=h.2 h0;rw[e]at e';cases e';exact hg.block b hr.lt (fun e=>by have:=Option.some.inj e;omega))
theorem AF.new.past{c:AF}(h:c.new B w)(hg:w.grownBy w' (some P))(hP:P<B):c.new B w':=h.of hg.size (fun b e h0=>by
 obtain⟨b',m,F,e',h1,_,hr⟩:=h.2 h0;rw[e]at e';cases e';exact hg.block b hr.lt (fun e=>by have:=Option.some.inj e;omega))
theorem By.past(h:By w B vt vo lt lo)(hg:w.grownBy w' (some P))(hP:P<B):By w' B vt vo lt lo:=by
 have ne:∀{ty sz n:Nat}{v:Value}{cs:List Value},w.ownsRow B ty sz v n cs->v.ownBlock=none∨v.ownBlock≠some P:=fun{ty sz n v cs} ho=> .inr (fun e=>by have:=(World.ownsRow.lt ho P e).1;omega);exact⟨World.ownsRow.kept h.t hg (ne h.t),World.ownsRow.kept h.o hg (ne h.o),fun x hx=>⟨(h.tn x hx).1.past hg hP,(h.tn x hx).2.1.past hg hP,(h.tn x hx).2.2.past hg hP⟩,fun x hx=>⟨(h.on x hx).1.past hg hP,(h.on x hx).2.1.past hg hP,(h.on x hx).2.2.1.past hg hP,(h.on x hx).2.2.2.past hg hP⟩,h.tc,h.oc⟩
structure Apart(lt:List Ae)(lo:List Ab):Prop where
 c:((lt.map Ae.cb).flatten++(lo.map Ab.cb).flatten).Nodup
 i:((lt.map fun x=>x.own.bs).flatten++(lo.map fun x=>x.own.bs).flatten).Nodup
 s:((lo.map fun x=>x.jA.bs).flatten).Nodup
theorem Apart.nil:Apart [] []:=⟨by simp,by simp,by simp⟩
theorem By.low3(h:By w B vt vo lt lo):(∀b∈(lt.map Ae.cb).flatten++(lo.map Ab.cb).flatten,b<w.heap.size)/\(∀b∈(lt.map fun x=>x.own.bs).flatten++(lo.map fun x=>x.own.bs).flatten,b<w.heap.size)/\(∀b∈(lo.map fun x=>x.jA.bs).flatten,b<w.heap.size):=by
 refine⟨fun b hb=>?_,fun b hb=>?_,fun b hb=>?_⟩
 ·rcases List.mem_append.1 hb with hb|hb
  ·obtain⟨l,hl,hb⟩:=List.mem_flatten.1 hb;obtain⟨x,hx,rfl⟩:=List.mem_map.1 hl;rcases List.mem_append.1 hb with hb|hb
   ·exact((h.tn x hx).1.bs.2 b hb).2
   ·exact((h.tn x hx).2.1.bs.2 b hb).2
  ·obtain⟨l,hl,hb⟩:=List.mem_flatten.1 hb;obtain⟨x,hx,rfl⟩:=List.mem_map.1 hl;rcases List.mem_append.1 hb with hb|hb
   ·exact((h.on x hx).1.bs.2 b hb).2
   ·exact((h.on x hx).2.2.2.bs.2 b hb).2
 ·rcases List.mem_append.1 hb with hb|hb
  ·obtain⟨l,hl,hb⟩:=List.mem_flatten.1 hb;obtain⟨x,hx,rfl⟩:=List.mem_map.1 hl;exact((h.tn x hx).2.2.bs.2 b hb).2
  ·obtain⟨l,hl,hb⟩:=List.mem_flatten.1 hb;obtain⟨x,hx,rfl⟩:=List.mem_map.1 hl;exact((h.on x hx).2.2.1.bs.2 b hb).2
 ·obtain⟨l,hl,hb⟩:=List.mem_flatten.1 hb;obtain⟨x,hx,rfl⟩:=List.mem_map.1 hl;exact((h.on x hx).2.1.bs.2 b hb).2
theorem Apart.addT(h:Apart lt [])(hk:By w B vt vo lt []){x:Ae}(hx:x.new M w')(hM:w.heap.size<=M)(hn:x.cb.Nodup):Apart (lt++[x]) []:=by
 obtain⟨k1,k2,_⟩:=hk.low3;refine⟨?_,?_,by simp⟩
 ·have:=Dg (M:=w.heap.size) (l2:=x.cb) (by simpa using h.c) hn (by simpa using k1) (fun b hb=>by
   rcases List.mem_append.1 hb with hb|hb
   ·exact Nat.le_trans hM (hx.1.bs.2 b hb).1
   ·exact Nat.le_trans hM (hx.2.1.bs.2 b hb).1)
  simpa using this
 ·have:=Dg (M:=w.heap.size) (l2:=x.own.bs) (by simpa using h.i) hx.2.2.bs.1 (by simpa using k2) (fun b hb=>Nat.le_trans hM (hx.2.2.bs.2 b hb).1);simpa using this
theorem Apart.addO(h:Apart lt lo)(hk:By w B vt vo lt lo){x:Ab}(hx:x.new M w')(hM:w.heap.size<=M)(hn:x.cb.Nodup):Apart lt (lo++[x]):=by
 obtain⟨k1,k2,k3⟩:=hk.low3;refine⟨?_,?_,?_⟩
 ·have:=Dg (M:=w.heap.size) (l2:=x.cb) h.c hn k1 (fun b hb=>by
   rcases List.mem_append.1 hb with hb|hb
   ·exact Nat.le_trans hM (hx.1.bs.2 b hb).1
   ·exact Nat.le_trans hM (hx.2.2.2.bs.2 b hb).1)
  simpa[List.append_assoc]using this
 ·have:=Dg (M:=w.heap.size) (l2:=x.own.bs) h.i hx.2.2.1.bs.1 k2 (fun b hb=>Nat.le_trans hM (hx.2.2.1.bs.2 b hb).1);simpa[List.append_assoc]using this
 ·have:=Dg (M:=w.heap.size) (l2:=x.jA.bs) h.s hx.2.1.bs.1 k3 (fun b hb=>Nat.le_trans hM (hx.2.1.bs.2 b hb).1);simpa using this
end Go.Proofs.YtefoofaocbjdoaaGreatDoor
