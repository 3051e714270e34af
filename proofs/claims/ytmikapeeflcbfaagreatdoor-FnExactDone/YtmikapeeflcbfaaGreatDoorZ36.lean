import Derived.Test.YtmikapeeflcbfaaGreatDoorZ35
import Derived.Test.YtmikapeeflcbfaaGreatDoorZ33
import Derived.Test.YtmikapeeflcbfaaGreatDoorZ6
import Derived.Test.YtmikapeeflcbfaaGreatDoorZ4
import Derived.Test.YtmikapeeflcbfaaGreatDoorKB10
import Derived.Test.YtmikapeeflcbfaaGreatDoorZ18
import Derived.Test.YtmikapeeflcbfaaGreatDoorZ5
set_option maxRecDepth 100000
set_option maxHeartbeats 16000000
namespace Go.Proofs.YtmikapeeflcbfaaGreatDoor
open Go Go.RowKit Go.Deep Go.Maps Go.BigFrame Go.Shelf Go.Proofs.Tryz
theorem Sj(k:Ar)(w:World)(hk:k.at w)(ok:BI k=false)(hw:∀i,i<k.on->(Lit.int .i64 (k.O i).id).wf=true)(s:Ak):
 Calls prog 6 #[.agg #[.slice k.ta k.tn k.tk,.slice k.oa k.on k.ok],.agg #[s.th,s.kind,s.id,s.to,s.cat,.string s.data,s.b1,.slice s.c1.a s.c1.n s.c1.k,s.b2,.slice s.c2.a s.c2.n s.c2.k]] w fun e w'=>e= .returned (.tuple #[.agg #[.slice none 0 0,.slice none 0 0],.int .i64 1,.string ⟨#[]⟩])/\Below w w w':=by
 have n1:No (.cells #[s.th,s.kind,s.id,s.to,s.cat,.string s.data,s.b1,.slice s.c1.a s.c1.n s.c1.k,s.b2,.slice s.c2.a s.c2.n s.c2.k] 44):=⟨⟩;have n3:Na #[.slice k.ta k.tn k.tk,.slice k.oa k.on k.ok]:=⟨⟩;have n4:No (.cells #[.slice none 0 0,.slice none 0 0] 36):=⟨⟩;have n2:Nw (((w.alloc (.cells n3 36)).alloc n1).alloc n4):=⟨⟩;have b0:Below w w n2:=(((Below.refl _ w).alloc (Nat.le_refl _) _).alloc (by simp) _).alloc (by simp;omega) _;have A0:Ah n2 w (.cells n3 36):=((Ah.new w _).alloc _).alloc _;have P0:Ah n2 (w.heap.size+1) n1:=by have:=(Ah.new (w.alloc (.cells n3 36)) n1).alloc n4;simpa using this
 have R0:Ah n2 (w.heap.size+1+1) n4:=by have:=Ah.new ((w.alloc (.cells n3 36)).alloc n1) n4;simpa using this
 have HK:=hid hk;have OK:=hid ok;have HB:=hid b0;have HA:=hid A0;have HP:=hid P0;have HR:=hid R0;clear b0 A0 P0 R0 hk ok;go_enter func6,ntmps6
 obtain⟨x0,x1⟩:=HA.out.two;obtain⟨s0,s1,s2,s3,s4,s5,s6,s7,s8,s9⟩:=HP.out.jE;go_wp2_with fail
 clear x0 x1 s0 s1 s2 s3 s4 s5 s6 s7 s8 s9;have S0:=hid HB.out.size;generalize (n2:World)=V at *;have C1:Hid (Calls prog 18 #[.agg n3] V fun e w'=>e= .returned (.bool false)/\Below V V w'):=hid (by
  have h:=Lp k V (HK.out.below HB) hw;rw[OK.out]at h;exact h)
 refine C1.out.mono ?_;rintro e w1 ⟨rfl,hb1⟩;have B1:=hid hb1;have L1:=hid (Ae HB hb1);clear hb1;have RB:=hid (HR.out.below B1);obtain⟨r0,r1⟩:=RB.out.two;have rf:=RB.out.jC;go_wp2;refine bodyPost_ret (Ai _ _ (w.heap.size+1+1) 4 _ _ _ _ Tryz.results6 ((RB.out.jB (i:=0) _).jB (i:=1) _) rfl rfl rfl) rfl ⟨rfl,?_⟩;exact(L1.out.setCell (by dsimp only;omega) _).setCell (by dsimp only;omega) _
theorem Ss.of_nm{l m:List Ac}(h:Ss (l.map Ac.nm) (m.map Ac.nm)):Ss l m:=
 ⟨by simpa using h.1,fun j hj=>by
   have e:=h.2 j (by simpa using hj);rw[an,an]at e;exact e⟩
theorem QV.of_nm{l m:List Ab}(h:QV (l.map Ab.nm) (m.map Ab.nm)):QV l m:=
 ⟨by simpa using h.1,fun j hj=>by
   have e:=h.2 j (by simpa using hj);rw[Hr,Hr]at e;exact e⟩
theorem ZN{x y z:Ac}(a:x.same y)(b:x.same z):y.nm=z.nm:=by
 obtain⟨a1,a2,a3,a4,a5,a6,a7⟩:=a;obtain⟨b1,b2,b3,b4,b5,b6,b7⟩:=b;unfold Ac.nm Al.nm Av.nm;rw[a1,b1,a2,b2,a3.1,b3.1,a3.2.1,b3.2.1,a3.2.2,b3.2.2,a4,b4,a5.1,b5.1,a5.2.1,b5.2.1,a5.2.2,b5.2.2,a6.1,b6.1,a6.2,b6.2,a7,b7]
theorem Zu{x y z:Ab}(a:x.same y)(b:x.same z):y.nm=z.nm:=by
 obtain⟨a1,a2,a3,a4,a5,a6,a7,a8,a9,a10⟩:=a;obtain⟨b1,b2,b3,b4,b5,b6,b7,b8,b9,b10⟩:=b;unfold Ab.nm Al.nm Av.nm Ao.nm;rw[a1,b1,a2,b2,a3,b3,a4,b4,a5.1,b5.1,a5.2.1,b5.2.1,a5.2.2,b5.2.2,a6,b6,a7.1,b7.1,a7.2,b7.2,a8.1,b8.1,a8.2,b8.2,a9,b9,a10.1,b10.1,a10.2.1,b10.2.1,a10.2.2,b10.2.2]
theorem Xq{l m:List Ac}(e:m.length=l.length)(h:∀j,j<l.length->(As l j).nm=(As m j).nm):l.map Ac.nm=m.map Ac.nm:=by
 refine List.ext_getElem (by simp[e]) fun j h1 h2=>?_;simp only[List.length_map]at h1 h2;have:=h j h1;rw[List.getElem_map,List.getElem_map];unfold As at this;rw[List.getD_eq_getElem?_getD,List.getD_eq_getElem?_getD,List.getElem?_eq_getElem h1,List.getElem?_eq_getElem h2]at this;exact this
theorem Xt{l m:List Ab}(e:m.length=l.length)(h:∀j,j<l.length->(Aa l j).nm=(Aa m j).nm):l.map Ab.nm=m.map Ab.nm:=by
 refine List.ext_getElem (by simp[e]) fun j h1 h2=>?_;simp only[List.length_map]at h1 h2;have:=h j h1;rw[List.getElem_map,List.getElem_map];unfold Aa at this;rw[List.getD_eq_getElem?_getD,List.getD_eq_getElem?_getD,List.getElem?_eq_getElem h1,List.getElem?_eq_getElem h2]at this;exact this
theorem aw{k:Ar}{lt lt2:List Ac}{lo lo2:List Ab}(h:k.same (DW none 0 none 0 lt lo))(h2:k.same (DW none 0 none 0 lt2 lo2)):lt.map Ac.nm=lt2.map Ac.nm/\lo.map Ab.nm=lo2.map Ab.nm:=by
 refine⟨Xq (h2.1.trans h.1.symm) fun j hj=>?_,Xt (h2.2.2.1.trans h.2.2.1.symm) fun j hj=>?_⟩
 ·have hj':j<k.tn:=by have e:lt.length=k.tn:=h.1;omega
  exact ZN (h.2.1 j hj') (h2.2.1 j hj')
 ·have hj':j<k.on:=by have e:lo.length=k.on:=h.2.2.1;omega
  exact Zu (h.2.2.2 j hj') (h2.2.2.2 j hj')
theorem TX{k:Ar}{s:Ak}{lt lt2 lt' lt2':List Ac}{lo lo2 lo' lo2':List Ab}{c c2:Int}{tx tx2:ByteArray}(h:k.same (DW none 0 none 0 lt lo))(h2:k.same (DW none 0 none 0 lt2 lo2))(p:Ij lt lo s c tx lt' lo')(p2:Ij lt2 lo2 s c2 tx2 lt2' lo2'):UP c c2 tx tx2 lt' lt2' lo' lo2':=by
 obtain⟨et,eo⟩:=aw h h2;have ea:Vx lt s.th=Vx lt2 s.th:=by rw[<-Y8 lt,<-Y8 lt2,et]
 have s1:Ss lt lt2:= .of_nm (by rw[et];exact .refl _);have s2:QV lo lo2:= .of_nm (by rw[eo];exact .refl _);cases p with
 |form a hc ht e1 e2=>
  cases p2 with
  |form a' hc' ht' e1' e2'=>exact⟨hc'.trans hc.symm,ht'.trans ht.symm,by rw[e1,e1'];exact s1,by rw[e2,e2'];exact s2⟩
  |thread a'=>rw[a]at a';cases a'
  |act a'=>rw[a]at a';cases a'
 |thread a hn hc ht e1 e2=>
  cases p2 with
  |form a'=>rw[a]at a';cases a'
  |thread a' hn' hc' ht' e1' e2'=>exact⟨hc'.trans hc.symm,ht'.trans ht.symm,by rw[e1,e1'];exact s1,by rw[e2,e2'];exact s2⟩
  |act a' t ht' hn' p2=>rw[<-ea,hn]at hn';cases hn'
 |act a t ht hn p=>
  cases p2 with
  |form a'=>rw[a]at a';cases a'
  |thread a' hn'=>rw[<-ea,hn]at hn';cases hn'
  |act a' t' ht' hn' p2=>
   rw[<-ea,hn]at hn';cases hn';have q:=Y9 p;have q2:=Y9 p2;have ex:lt[t].nm=lt2[t].nm:=by
    have e:(lt.map Ac.nm)[t]? =(lt2.map Ac.nm)[t]?:=(by rw[et]);rw[List.getElem?_map,List.getElem?_map,List.getElem?_eq_getElem ht,List.getElem?_eq_getElem ht']at e;exact Option.some.inj e
   rw[<-ex,<-et,<-eo]at q2;obtain⟨z1,z2,z3,z4⟩:=Vk q q2;exact⟨z1,z2,.of_nm z3,.of_nm z4⟩
theorem Ss.after{l m n:List Ac}(h:Lf l m)(h2:Ss m n):Ss l n:=⟨h2.1.trans h.1,fun j hj=>by
 have e:=h2.2 j (by rw[h.1];exact hj);obtain⟨a1,a2,a3,a4,a5,a6,a7⟩:=h.2 j hj;obtain⟨b1,b2,b3,b4,b5,b6,b7⟩:=e;exact⟨b1.trans a1,b2.trans a2,⟨b3.1.trans a3.1,fun i hi=>⟨(b3.2 i (by rw[a3.1];exact hi)).1.trans (by rw[a3.2.1]),(b3.2 i (by rw[a3.1];exact hi)).2.trans (by rw[a3.2.2])⟩⟩,b4.trans a4,⟨b5.1.trans a5.1,fun i hi=>⟨(b5.2 i (by rw[a5.1];exact hi)).1.trans (by rw[a5.2.1]),(b5.2 i (by rw[a5.1];exact hi)).2.trans (by rw[a5.2.2])⟩⟩,⟨b6.1.trans a6.1,fun i hi=>(b6.2 i (by rw[a6.1];exact hi)).trans (by rw[a6.2])⟩,b7.trans a7⟩⟩
theorem QV.after{l m n:List Ab}(h:Ih l m)(h2:QV m n):QV l n:=⟨h2.1.trans h.1,fun j hj=>by
 have e:=h2.2 j (by rw[h.1];exact hj);obtain⟨a1,a2,a3,a4,a5,a6,a7,a8,a9,a10⟩:=h.2 j hj;obtain⟨b1,b2,b3,b4,b5,b6,b7,b8,b9,b10⟩:=e;exact⟨b1.trans a1,b2.trans a2,b3.trans a3,b4.trans a4,⟨b5.1.trans a5.1,fun i hi=>⟨(b5.2 i (by rw[a5.1];exact hi)).1.trans (by rw[a5.2.1]),(b5.2 i (by rw[a5.1];exact hi)).2.trans (by rw[a5.2.2])⟩⟩,b6.trans a6,⟨b7.1.trans a7.1,fun i hi=>(b7.2 i (by rw[a7.1];exact hi)).trans (by rw[a7.2])⟩,⟨b8.1.trans a8.1,fun i hi=>(b8.2 i (by rw[a8.1];exact hi)).trans (by rw[a8.2])⟩,b9.trans a9,⟨b10.1.trans a10.1,fun i hi=>⟨(b10.2 i (by rw[a10.1];exact hi)).1.trans (by rw[a10.2.1]),(b10.2 i (by rw[a10.1];exact hi)).2.trans (by rw[a10.2.2])⟩⟩⟩⟩
def Oe(k0:Int)(i:Nat):Int:=k0+2*i
def QX(k0:Int)(i:Nat):Int:=k0+2*i+1
def JH(w:World)(a:Option Addr)(b n:Nat):Prop:=0<n->a=some ⟨b,0,none⟩/\∃m F,n*2<=m/\w.rowIs b 145 m F
theorem JH.below{w w':World}{a:Option Addr}{b n:Nat}(h:JH w a b n)(hb:Below w w w'):JH w' a b n:=fun h0=>by
 obtain⟨e,m,F,hm,hr⟩:=h h0;exact⟨e,m,F,hm,hr.of_block (hb.block b hr.lt)⟩
theorem JH.grown{w w':World}{a:Option Addr}{b n:Nat}{row:Option Nat}(h:JH w a b n)(hg:w.grownBy w' row)(hne:some b≠row):JH w' a b n:=fun h0=>by
 obtain⟨e,m,F,hm,hr⟩:=h h0;exact⟨e,m,F,hm,hr.of_block (hg.block b hr.lt hne)⟩
theorem Qz(a:Option Addr)(b n cap:Nat)(k0:Int)(w:World)(hn:n<=1048576)(h0:0<=k0)(h1:k0<=1000000000000)(hr:JH w a b n):
 Calls prog 69 #[.slice a n cap,.int .i64 k0] w fun e w'=>e= .returned (.int .i64 (k0+2*n))/\w.grownBy w' (some b)/\An w' a n (Oe k0) (QX k0):=by
 go_enter func69,ntmps69
 go_wp2;go_loopw [1,5] (fun kk i wr=>∃j:Nat,j<=n/\i= .int .i64 j/\kk= .int .i64 (k0+2*j)/\w.grownBy wr (some b)/\JH wr a b n/\(∀i,i<j->wr.cell? ⟨b,i*2,none⟩=some (.int .i64 (Oe k0 i))/\wr.cell? ⟨b,i*2+1,none⟩=some (.int .i64 (QX k0 i)))) (fun _ i _=>n-(intOf i).toNat)
 case atStart=>exact⟨0,Nat.zero_le _,rfl,by simp,I7 _ _,hr,fun i hi=>by omega⟩
 case round=>
  obtain⟨j,hj,rfl,rfl,hg,hrow,hcells⟩:=hrel;have HCL:Hid (∀i,i<j->wr.cell? ⟨b,i*2,none⟩=some (.int .i64 (Oe k0 i))/\wr.cell? ⟨b,i*2+1,none⟩=some (.int .i64 (QX k0 i))):=hcells;clear hcells;by_cases hlt:j<n
  ·obtain⟨rfl,m,F,hm,hR⟩:=hrow (by omega);have c1:=hR.cell (i:=j*2) (by omega);have c2:=hR.cell (i:=j*2+1) (by omega);have f1:=hR.frozen (j*2);have f2:=hR.frozen (j*2+1);have HR:Hid (wr.rowIs b 145 m F):=hR;clear hR hrow hr;go_wp2;go_roundw;case rel=>
    have R1:=(HR.out.set (j*2) (.int .i64 (k0+2*j))).set (j*2+1) (.int .i64 (k0+2*j+1));refine⟨j+1,by omega,by go_num,by go_num,IJ (IJ hg _ _) _ _,fun _=>⟨rfl,m,_,hm,R1⟩,fun i hi=>⟨?_,?_⟩⟩
    ·rw[R1.cell (i:=i*2) (by omega)];have e1:¬i*2=j*2+1:=(by omega);rw[if_neg e1];by_cases e:i=j
     ·subst e;rw[if_pos rfl];rfl
     ·have e2:¬i*2=j*2:=(by omega);rw[if_neg e2,<-HR.out.cell (i:=i*2) (by omega)];exact(HCL i (by omega)).1
    ·rw[R1.cell (i:=i*2+1) (by omega)];by_cases e:i=j
     ·subst e;rw[if_pos rfl];rfl
     ·have e1:¬i*2+1=j*2+1:=(by omega);have e2:¬i*2+1=j*2:=(by omega);rw[if_neg e1,if_neg e2,<-HR.out.cell (i:=i*2+1) (by omega)];exact(HCL i (by omega)).2
   case measure=>simp[intOf];omega
  ·go_wp2;go_ret;have e:j=n:=(by omega);subst e;refine⟨rfl,hg,fun h=>?_⟩;obtain⟨rfl,m,F,hm,hR⟩:=hrow h;exact⟨b,0,rfl,hR.lt,fun i hi=>by rw[Nat.zero_add];exact HCL.out i hi⟩
theorem FV(a:Option Addr)(n cap:Nat)(k0:Int)(w:World)(hn:n<=1048576)(h0:0<=k0)(h1:k0<=1000000000000)(hc:An w a n (Oe k0) (QX k0)):
 Calls prog 73 #[.slice a n cap,.int .i64 k0] w fun e w'=>e= .returned (.int .i64 (k0+2*n))/\w'=w:=by
 go_enter func73,ntmps73
 go_wp2;go_loop [1,5] (fun kk i=>∃j:Nat,j<=n/\i= .int .i64 j/\kk= .int .i64 (k0+2*j)) (fun _ i=>n-(intOf i).toNat)
 case atStart=>exact⟨0,Nat.zero_le _,rfl,by simp⟩
 case round=>
  obtain⟨j,hj,rfl,rfl⟩:=hrel;by_cases hlt:j<n
  ·obtain⟨b,off,rfl,hbl,hcc⟩:=hc (by omega);obtain⟨c1,c2⟩:=hcc j hlt;unfold Oe at c1;unfold QX at c2;clear hcc hc;go_wp2;go_round;case rel=>exact⟨j+1,by omega,by go_num,by go_num⟩
   case measure=>simp[intOf];omega
  ·clear hc;go_wp2;go_ret;have e:j=n:=(by omega);subst e;exact⟨rfl,rfl⟩
def Ac.has(g:Ac)(b:Nat):Prop:=(0<g.c1.n/\g.c1.a=some ⟨b,0,none⟩)∨(0<g.c2.n/\g.c2.a=some ⟨b,0,none⟩)∨(0<g.own.n/\g.own.a=some ⟨b,0,none⟩)
structure AH(H:Nat->Prop)(w w':World):Prop where
 os:w'.os=w.os
 tape:w'.tape=w.tape
 output:w'.output=w.output
 size:w.heap.size<=w'.heap.size
 block:∀k,k<w.heap.size->¬H k->w'.heap[k]? =w.heap[k]?
theorem AH.trans{H:Nat->Prop}{a b c:World}(h:AH H a b)(k:AH H b c):AH H a c:=
 ⟨k.os.trans h.os,k.tape.trans h.tape,k.output.trans h.output,Nat.le_trans h.size k.size,fun j hj hn=>(k.block j (Nat.lt_of_lt_of_le hj h.size) hn).trans (h.block j hj hn)⟩
theorem AH.below{H:Nat->Prop}{w0 w w':World}(h0:Below w0 w0 w)(h:AH H w w')(hH:∀k,H k->w0.heap.size<=k):Below w0 w0 w':=
 ⟨h.os.trans h0.os,h.tape.trans h0.tape,h.output.trans h0.output,Nat.le_trans h0.size h.size,fun k hk=>(h.block k (Nat.lt_of_lt_of_le hk h0.size) (fun e=>by have:=hH k e;omega)).trans (h0.block k hk)⟩
theorem AH.blk{H:Nat->Prop}{w w':World}{P:Nat}{o:Obj}(h:AH H w w')(hP:Ah w P o)(hn:¬H P):Ah w' P o:=(h.block P hP.lt hn).trans hP
theorem Av.new.rowI{B:Nat}{w:World}{c:Av}(h:c.new B w):∃b,LJ w c.a b c.n/\(0<c.n->c.a=some ⟨b,0,none⟩)/\(¬0<c.n->w.heap.size<=b):=by
 by_cases hn:0<c.n
 ·obtain⟨b,m,F,e,_,h2,h3⟩:=h.2 hn;exact⟨b,fun _=>⟨e,m,F,h2,h3⟩,fun _=>e,fun h=>absurd hn h⟩
 ·exact⟨w,fun h=>absurd h hn,fun h=>absurd h hn,fun _=>Nat.le_refl _⟩
theorem An.of_block{w w':World}{a:Option Addr}{n:Nat}{f g:Nat->Int}(h:An w a n f g)(hs:w.heap.size<=w'.heap.size)(hb:0<n->∀b off,a=some ⟨b,off,none⟩->w'.heap[b]? =w.heap[b]?):An w' a n f g:=fun hn=>by
 obtain⟨b,off,e,hlt,hc⟩:=h hn;have ce:∀o,w'.cell? ⟨b,o,none⟩=w.cell? ⟨b,o,none⟩:=fun o=>World.cell?_of_block (a:=⟨b,o,none⟩) (hb hn b off e);exact⟨b,off,e,Nat.lt_of_lt_of_le hlt hs,fun i hi=>by rw[ce,ce];exact hc i hi⟩
def WG(k i:Nat):ByteArray:=⟨(109::Ju (k+i)).toArray⟩
def az(w:World)(a:Option Addr)(b o n:Nat):Prop:=0<n->a=some ⟨b,o,none⟩/\∃m F,o+n<=m/\w.rowIs b 9 m F
theorem Lz(a:Option Addr)(b o n cap k:Nat)(w:World)(hn:n<=1048576)(hk:1<=k)(hk2:k<=1000000000000)(hr:az w a b o n):
 Calls prog 72 #[.slice a n cap,.int .i64 (k:Nat)] w fun e w'=>e= .returned (.int .i64 (k+n:Nat))/\w.grownBy w' (some b)/\Ej w' a n (WG k):=by
 have M:=hid (fun(j:Nat) (hj:j<n) w=>FR (k+j) w (by omega) (by omega));go_enter func72,ntmps72
 go_wp2;go_loopw [1,5] (fun kk i wr=>∃j:Nat,j<=n/\i= .int .i64 j/\kk= .int .i64 (k+j:Nat)/\w.grownBy wr (some b)/\az wr a b o n/\(∀i,i<j->wr.cell? ⟨b,o+i,none⟩=some (.string (WG k i)))) (fun _ i _=>n-(intOf i).toNat)
 case atStart=>exact⟨0,Nat.zero_le _,rfl,rfl,I7 _ _,hr,fun i hi=>by omega⟩
 case round=>
  obtain⟨j,hj,rfl,rfl,hg,hrow,hcells⟩:=hrel;have HCL:=hid hcells;clear hcells;by_cases hlt:j<n
  ·obtain⟨rfl,m,F,hm,hR⟩:=hrow (by omega);have HR:=hid hR;have MJ:=hid (M.out j hlt);have i0:(j:Int)<(n:Int):=(by omega);clear hR hrow hr M;go_wp2_with(go_at_call 71;refine(MJ _).mono ?_;rintro e w2 ⟨rfl,h2⟩;have R2:=hid (HR.out.of_block (h2.block b HR.out.lt));have c1:=R2.out.cell (i:=o+j) (by omega);have f1:=R2.out.frozen (o+j))
   go_roundw;case rel=>
    have R1:=R2.out.set (o+j) (.string (WG k j));refine⟨j+1,by omega,by go_num,by go_num,?_,fun _=>⟨rfl,m,_,hm,R1⟩,fun i hi=>?_⟩
    ·have g2:w.grownBy w2 (some b):=⟨h2.os.trans hg.os,h2.tape.trans hg.tape,h2.output.trans hg.output,Nat.le_trans hg.size h2.size,fun k hk hne=>(h2.block k (Nat.lt_of_lt_of_le hk hg.size)).trans (hg.block k hk hne)⟩;exact IJ g2 _ _
    ·show(w2.setCell ⟨b,o+j,none⟩ (.string (WG k j))).cell? ⟨b,o+i,none⟩=_;rw[R1.cell (i:=o+i) (by omega)];by_cases e:i=j
     ·subst e;rw[if_pos rfl]
     ·have d:=HCL.out i (by omega);have hb':w2.cell? ⟨b,o+i,none⟩=wr.cell? ⟨b,o+i,none⟩:=h2.cell (p:=⟨b,o+i,none⟩) HR.out.lt;rw[<-hb',R2.out.cell (i:=o+i) (by omega)]at d;rw[if_neg (by omega)];exact d
   case measure=>simp[intOf];omega
  ·have ej:j=n:=(by omega);subst ej;go_wp2;go_ret;refine⟨by simp,hg,fun hp=>?_⟩;obtain⟨rfl,m,F,hm,hR⟩:=hrow hp;exact⟨b,o,rfl,hR.lt,fun i hi=>HCL i hi⟩
theorem Lw(a:Option Addr)(n cap k:Nat)(w:World)(hn:n<=1048576)(hk:1<=k)(hk2:k<=1000000000000)(H:Ej w a n (WG k)):
 Calls prog 75 #[.slice a n cap,.int .i64 (k:Nat)] w fun e w'=>e= .returned (.int .i64 (k+n:Nat))/\Below w w w':=by
 have M:=hid (fun(j:Nat) (hj:j<n) w=>FR (k+j) w (by omega) (by omega));go_enter func75,ntmps75
 go_wp2;go_loopw [1,5] (fun kk i wr=>∃j:Nat,j<=n/\i= .int .i64 j/\kk= .int .i64 (k+j:Nat)/\Below w w wr) (fun _ i _=>n-(intOf i).toNat)
 case atStart=>exact⟨0,Nat.zero_le _,rfl,rfl,Below.refl _ _⟩
 case round=>
  obtain⟨j,hj,rfl,rfl,hB⟩:=hrel;by_cases hlt:j<n
  ·obtain⟨b,off,rfl,hz,hc⟩:=H (by omega);have u1:∀p:Up wr,p.W.cell? ⟨b,off+j,none⟩=some (.string (WG k j)):=fun p=>((Ae hB p.h).cell (p:=⟨b,_,none⟩) hz).trans (hc j hlt);have MJ:Hid (∀W,Calls prog 71 #[.int .i64 (k+j:Nat)] W fun e w'=>e= .returned (.string (WG k j))/\Below W W w'):=M.out j hlt;have i0:(j:Int)<(n:Int):=(by omega);clear hc H M;generalize WG k j=X at *;go_wp2;refine Ay (by kernel_rfl) (by kernel_rfl) ?_;repeat(go_big_quiet_step (first|(go_at_call 71;exact FQ (MJ _))))
   refine wpQuiet_nil ?_;rintro _ ⟨p,rfl⟩;go_wp2;exact⟨⟨j+1,by omega,by go_num,by go_num,Ae hB p.h⟩,by simp[intOf];omega⟩
  ·have ej:j=n:=(by omega);subst ej;clear H;go_wp2;go_ret;exact⟨by simp,hB⟩
def Gs(a:Option Addr)(n k:Nat):Prop:=0<n/\∃o,a=some ⟨k,o,none⟩
def WB(a:Option Addr)(n:Nat)(a':Option Addr)(n':Nat):Prop:=∀b,Gs a n b->¬Gs a' n' b
theorem WB.symm{a a':Option Addr}{n n':Nat}(h:WB a n a' n'):WB a' n' a n:=fun b h1 h2=>h b h2 h1
theorem AH.mono{H H':Nat->Prop}{w w':World}(h:AH H w w')(hh:∀k,H k->H' k):AH H' w w':=⟨h.os,h.tape,h.output,h.size,fun k hk hn=>h.block k hk (fun e=>hn (hh k e))⟩
theorem Al.new.jG{B:Nat}{w:World}{c:Al}(h:c.new B w){b:Nat}(hb:Gs c.a c.n b):b<w.heap.size/\B<=b/\∃m F,w.rowIs b 145 m F:=by
 obtain⟨b',m,F,e,h1,_,h3⟩:=h.2 hb.1;obtain⟨o,eo⟩:=hb.2;rw[eo]at e;cases e;exact⟨h3.lt,h1,m,F,h3⟩
theorem Av.new.jG{B:Nat}{w:World}{c:Av}(h:c.new B w){b:Nat}(hb:Gs c.a c.n b):b<w.heap.size/\B<=b/\∃m F,w.rowIs b 2 m F:=by
 obtain⟨b',m,F,e,h1,_,h3⟩:=h.2 hb.1;obtain⟨o,eo⟩:=hb.2;rw[eo]at e;cases e;exact⟨h3.lt,h1,m,F,h3⟩
theorem Ao.new.jG{B:Nat}{w:World}{c:Ao}(h:c.new B w){b:Nat}(hb:Gs c.a c.n b):b<w.heap.size/\B<=b/\∃m F,w.rowIs b 9 m F:=by
 obtain⟨b',m,F,e,h1,_,h3⟩:=h.2 hb.1;obtain⟨o,eo⟩:=hb.2;rw[eo]at e;cases e;exact⟨h3.lt,h1,m,F,h3⟩
theorem Al.new.jD{B:Nat}{w w':World}{c:Al}{H:Nat->Prop}(h:c.new B w)(t:AH H w w')(ha:∀b,Gs c.a c.n b->¬H b):c.new B w':=h.of t.size (fun b e hn=>t.block b (h.jG ⟨hn,0,e⟩).1 (ha b ⟨hn,0,e⟩))
theorem Av.new.jD{B:Nat}{w w':World}{c:Av}{H:Nat->Prop}(h:c.new B w)(t:AH H w w')(ha:∀b,Gs c.a c.n b->¬H b):c.new B w':=h.of t.size (fun b e hn=>t.block b (h.jG ⟨hn,0,e⟩).1 (ha b ⟨hn,0,e⟩))
theorem Ao.new.jD{B:Nat}{w w':World}{c:Ao}{H:Nat->Prop}(h:c.new B w)(t:AH H w w')(ha:∀b,Gs c.a c.n b->¬H b):c.new B w':=h.of t.size (fun b e hn=>t.block b (h.jG ⟨hn,0,e⟩).1 (ha b ⟨hn,0,e⟩))
theorem An.jD{w w':World}{a:Option Addr}{n:Nat}{f g:Nat->Int}{H:Nat->Prop}(h:An w a n f g)(_he:0<n->∃d,Gs a n d)(t:AH H w w')(ha:∀b,Gs a n b->¬H b):An w' a n f g:=fun hn=>by
 obtain⟨b,off,e,hlt,hc⟩:=h hn;have ce:∀o,w'.cell? ⟨b,o,none⟩=w.cell? ⟨b,o,none⟩:=fun o=>World.cell?_of_block (a:=⟨b,o,none⟩) (t.block b hlt (ha b ⟨hn,off,e⟩));exact⟨b,off,e,Nat.lt_of_lt_of_le hlt t.size,fun i hi=>by rw[ce,ce];exact hc i hi⟩
theorem AJ.jD{w w':World}{a:Option Addr}{n:Nat}{f:Nat->Int}{H:Nat->Prop}(h:AJ w a n f)(_he:0<n->∃d,Gs a n d)(t:AH H w w')(ha:∀b,Gs a n b->¬H b):AJ w' a n f:=fun hn=>by
 obtain⟨b,off,e,hlt,hc⟩:=h hn;have ce:∀o,w'.cell? ⟨b,o,none⟩=w.cell? ⟨b,o,none⟩:=fun o=>World.cell?_of_block (a:=⟨b,o,none⟩) (t.block b hlt (ha b ⟨hn,off,e⟩));exact⟨b,off,e,Nat.lt_of_lt_of_le hlt t.size,fun i hi=>by rw[ce];exact hc i hi⟩
theorem Ej.jD{w w':World}{a:Option Addr}{n:Nat}{f:Nat->ByteArray}{H:Nat->Prop}(h:Ej w a n f)(_he:0<n->∃d,Gs a n d)(t:AH H w w')(ha:∀b,Gs a n b->¬H b):Ej w' a n f:=fun hn=>by
 obtain⟨b,off,e,hlt,hc⟩:=h hn;have ce:∀o,w'.cell? ⟨b,o,none⟩=w.cell? ⟨b,o,none⟩:=fun o=>World.cell?_of_block (a:=⟨b,o,none⟩) (t.block b hlt (ha b ⟨hn,off,e⟩));exact⟨b,off,e,Nat.lt_of_lt_of_le hlt t.size,fun i hi=>by rw[ce];exact hc i hi⟩
theorem Al.new.begins{B:Nat}{w:World}{c:Al}(h:c.new B w):0<c.n->∃d,Gs c.a c.n d:=fun hn=>by obtain⟨b,_,_,e,_⟩:=h.2 hn;exact⟨b,hn,0,e⟩
theorem Av.new.begins{B:Nat}{w:World}{c:Av}(h:c.new B w):0<c.n->∃d,Gs c.a c.n d:=fun hn=>by obtain⟨b,_,_,e,_⟩:=h.2 hn;exact⟨b,hn,0,e⟩
theorem Ao.new.begins{B:Nat}{w:World}{c:Ao}(h:c.new B w):0<c.n->∃d,Gs c.a c.n d:=fun hn=>by obtain⟨b,_,_,e,_⟩:=h.2 hn;exact⟨b,hn,0,e⟩
theorem PV(c:Av)(B:Nat)(k0:Int)(w:World)(hn:c.n<=1048576)(h0:0<=k0)(h1:k0<=1000000000000)(hr:c.new B w):
 Calls prog 70 #[.slice c.a c.n c.k,.int .i64 k0] w fun e w'=>e= .returned (.int .i64 (k0+c.n))/\AH (Gs c.a c.n) w w'/\AJ w' c.a c.n (Za k0):=by
 obtain⟨b,hR,hE,hF⟩:=hr.rowI;refine(MW c.a b c.n c.k k0 w hn h0 h1 hR).mono ?_;rintro e w' ⟨he,hg,hc⟩;refine⟨he,⟨hg.os,hg.tape,hg.output,hg.size,fun k hk hn'=>hg.block k hk (fun e=>?_)⟩,hc⟩;have e:=Option.some.inj e;subst e;by_cases h:0<c.n
 ·exact hn' ⟨h,0,hE h⟩
 ·have:=hF h;omega
theorem Ao.jH.jG{B:Nat}{w:World}{c:Ao}(h:c.jH B w){b:Nat}(hb:Gs c.a c.n b):b<w.heap.size/\B<=b/\∃m F,w.rowIs b 9 m F:=by
 obtain⟨b',o',m,F,e,h1,_,h3⟩:=h.2 hb.1;obtain⟨o,eo⟩:=hb.2;rw[eo]at e;cases e;exact⟨h3.lt,h1,m,F,h3⟩
theorem Ao.jH.jD{B:Nat}{w w':World}{c:Ao}{H:Nat->Prop}(h:c.jH B w)(t:AH H w w')(ha:∀b,Gs c.a c.n b->¬H b):c.jH B w':=h.of t.size (fun b hb=>by
 have h0:0<c.n:=by
  unfold Ao.bs at hb;split at hb
  ·assumption
  ·cases hb
 obtain⟨b',o,m,F,e,h1,_,h3⟩:=h.2 h0;have eb:b=b':=by
  unfold Ao.bs at hb;rw[if_pos h0,e]at hb;exact List.mem_singleton.1 hb
 subst eb;exact t.block b h3.lt (ha b ⟨h0,o,e⟩))
theorem Ao.jH.begins{B:Nat}{w:World}{c:Ao}(h:c.jH B w):0<c.n->∃d,Gs c.a c.n d:=fun hn=>by obtain⟨b,o,_,_,e,_⟩:=h.2 hn;exact⟨b,hn,o,e⟩
theorem Wa(c:Ao)(B:Nat)(k0:Int)(w:World)(hn:c.n<=1048576)(h0:1<=k0)(h1:k0<=1000000000000)(hr:c.jH B w):
 Calls prog 72 #[.slice c.a c.n c.k,.int .i64 k0] w fun e w'=>e= .returned (.int .i64 (k0+c.n))/\AH (Gs c.a c.n) w w'/\Ej w' c.a c.n (WG k0.toNat):=by
 obtain⟨k,rfl⟩:∃k:Nat,k0=k:=⟨k0.toNat,by omega⟩;obtain⟨b,o,hR,hF⟩:∃b o,az w c.a b o c.n/\(¬0<c.n->w.heap.size<=b):=by
  by_cases h:0<c.n
  ·obtain⟨b,o,m,F,e,_,h2,h3⟩:=hr.2 h;exact⟨b,o,fun _=>⟨e,m,F,h2,h3⟩,fun h'=>absurd h h'⟩
  ·exact⟨w,0,fun h'=>absurd h' h,fun _=>Nat.le_refl _⟩
 refine(Lz c.a b o c.n c.k k w hn (by omega) (by omega) hR).mono ?_;rintro e w' ⟨he,hg,hc⟩;refine⟨by rw[he];simp,⟨hg.os,hg.tape,hg.output,hg.size,fun k hk hn'=>hg.block k hk (fun e=>?_)⟩,by simpa using hc⟩;have e:=Option.some.inj e;subst e;by_cases h:0<c.n
 ·exact hn' ⟨h,o,(hR h).1⟩
 ·have:=hF h;omega
theorem Vl(c:Ao)(k0:Int)(w:World)(hn:c.n<=1048576)(h0:1<=k0)(h1:k0<=1000000000000)(hc:Ej w c.a c.n (WG k0.toNat)):
 Calls prog 75 #[.slice c.a c.n c.k,.int .i64 k0] w fun e w'=>e= .returned (.int .i64 (k0+c.n))/\Below w w w':=by
 obtain⟨k,rfl⟩:∃k:Nat,k0=k:=⟨k0.toNat,by omega⟩;refine(Lw c.a c.n c.k k w hn (by omega) (by omega) (by simpa using hc)).mono ?_;rintro e w' ⟨he,hb⟩;exact⟨by rw[he];simp,hb⟩
def Ab.has(g:Ab)(b:Nat):Prop:=Gs g.c1.a g.c1.n b∨Gs g.jA.a g.jA.n b∨Gs g.own.a g.own.n b∨Gs g.c2.a g.c2.n b
theorem AH.refl(H:Nat->Prop)(w:World):AH H w w:=⟨rfl,rfl,rfl,Nat.le_refl _,fun _ _ _=>rfl⟩
theorem AH.of_below{H:Nat->Prop}{w w':World}(h:Below w w w'):AH H w w':=⟨h.os,h.tape,h.output,h.size,fun k hk _=>h.block k hk⟩
theorem AH.put{H:Nat->Prop}{w w':World}{g:Nat}(h:AH H w w')(hg:H g)(i:Nat)(v:Value):AH H w (w'.setCell ⟨g,i,none⟩ v):=
 ⟨h.os,h.tape,h.output,by simpa[World.setCell]using h.size,fun k hk hn=>(Below.heap_setCell _ _ _ _ (fun(e:k=g)=>hn (by rw[e];exact hg))).trans (h.block k hk hn)⟩
theorem AH.row{H:Nat->Prop}{w w':World}{b ty m:Nat}{F:Nat->Value}(h:AH H w w')(hr:w.rowIs b ty m F)(hn:¬H b):w'.rowIs b ty m F:=hr.of_block (h.block b hr.lt hn)
theorem Iw(c:Al)(B:Nat)(k0:Int)(w:World)(hn:c.n<=1048576)(h0:0<=k0)(h1:k0<=1000000000000)(hr:c.new B w):
 Calls prog 69 #[.slice c.a c.n c.k,.int .i64 k0] w fun e w'=>e= .returned (.int .i64 (k0+2*c.n))/\AH (Gs c.a c.n) w w'/\An w' c.a c.n (Oe k0) (QX k0):=by
 obtain⟨b,hR,hF⟩:∃b,JH w c.a b c.n/\(¬0<c.n->w.heap.size<=b):=by
  by_cases h:0<c.n
  ·obtain⟨b,m,F,e,_,h2,h3⟩:=hr.2 h;exact⟨b,fun _=>⟨e,m,F,h2,h3⟩,fun h'=>absurd h h'⟩
  ·exact⟨w,fun h'=>absurd h' h,fun _=>Nat.le_refl _⟩
 refine(Qz c.a b c.n c.k k0 w hn h0 h1 hR).mono ?_;rintro e w' ⟨he,hg,hc⟩;refine⟨he,⟨hg.os,hg.tape,hg.output,hg.size,fun k hk hn'=>hg.block k hk (fun e=>?_)⟩,hc⟩;have e:=Option.some.inj e;subst e;by_cases h:0<c.n
 ·exact hn' ⟨h,0,(hR h).1⟩
 ·have:=hF h;omega
def Ac.hs(g:Ac)(b:Nat):Prop:=Gs g.c1.a g.c1.n b∨Gs g.c2.a g.c2.n b∨Gs g.own.a g.own.n b
def Ac.ml(t:Ac):Int:=4+2*t.c1.n+2*t.c2.n+t.own.n
def Hl(T:Nat->Ac)(k0:Int):Nat->Int
 |0=>k0
 |j+1=>Hl T k0 j+(T j).ml
structure SC(G:Nat->Value)(j:Nat)(t:Ac)(s:Int):Prop where
 n0:G (j*7)= .int .i64 s
 n1:G (j*7+1)= .int .i64 (s+1)
 n3:G (j*7+3)= .int .i64 (s+2+2*t.c1.n)
 n6:G (j*7+6)= .int .i64 (s+3+2*t.c1.n+2*t.c2.n+t.own.n)
structure Kb(w:World)(t:Ac)(s:Int):Prop where
 c1:An w t.c1.a t.c1.n (Oe (s+2)) (QX (s+2))
 c2:An w t.c2.a t.c2.n (Oe (s+3+2*t.c1.n)) (QX (s+3+2*t.c1.n))
 ow:AJ w t.own.a t.own.n (Za (s+3+2*t.c1.n+2*t.c2.n))
def Ac.begs(t:Ac):Prop:=(0<t.c1.n->∃d,Gs t.c1.a t.c1.n d)/\(0<t.c2.n->∃d,Gs t.c2.a t.c2.n d)/\(0<t.own.n->∃d,Gs t.own.a t.own.n d)
theorem Kb.jD{w w':World}{t:Ac}{s:Int}{H:Nat->Prop}(h:Kb w t s)(hb:t.begs)(k:AH H w w')(hn:∀b,t.hs b->¬H b):Kb w' t s:=
 ⟨h.c1.jD hb.1 k (fun b e=>hn b (.inl e)),h.c2.jD hb.2.1 k (fun b e=>hn b (.inr (.inl e))),h.ow.jD hb.2.2 k (fun b e=>hn b (.inr (.inr e)))⟩
theorem Ac.new.jD{B:Nat}{w w':World}{t:Ac}{H:Nat->Prop}(h:t.new B w)(k:AH H w w')(hn:∀b,t.hs b->¬H b):t.new B w':=
 ⟨h.1.jD k (fun b e=>hn b (.inl e)),h.2.1.jD k (fun b e=>hn b (.inr (.inl e))),h.2.2.jD k (fun b e=>hn b (.inr (.inr e)))⟩
theorem Ac.new.begs{B:Nat}{w:World}{t:Ac}(h:t.new B w):t.begs:=⟨h.1.begins,h.2.1.begins,h.2.2.begins⟩
structure bF(g n:Nat)(T:Nat->Ac):Prop where
 a12:∀j,j<n->WB (T j).c1.a (T j).c1.n (T j).c2.a (T j).c2.n
 a13:∀j,j<n->WB (T j).c1.a (T j).c1.n (T j).own.a (T j).own.n
 a23:∀j,j<n->WB (T j).c2.a (T j).c2.n (T j).own.a (T j).own.n
 ne:∀i j,i<n->j<n->i≠j->∀b,(T i).hs b->¬(T j).hs b
 g:∀j,j<n->¬(T j).hs g
def I6(n:Nat)(T:Nat->Ac):Prop:=∀j,j<n->(T j).c1.n<=20/\(T j).c2.n<=20/\(T j).own.n<=20
theorem Km{T:Nat->Ac}{k0:Int}{n:Nat}(h:I6 n T):∀j,j<=n->k0<=Hl T k0 j/\Hl T k0 j<=k0+200*j
 |0,_=>⟨Int.le_refl _,by simp[Hl]⟩
 |j+1,hj=>by
  have:=Km (k0:=k0) h j (by omega);obtain⟨h1,h2,h3⟩:=h j (by omega);show k0<=Hl T k0 j+(T j).ml/\Hl T k0 j+(T j).ml<=_;unfold Ac.ml;omega
structure YF(g m n B:Nat)(T:Nat->Ac)(k0:Int)(w wr:World)(j:Nat):Prop where
 t:AH (fun b=>b=g∨∃i,i<j/\(T i).hs b) w wr
 r:∃G,wr.rowIs g 86 m G/\Tn G n T/\∀i,i<j->SC G i (T i) (Hl T k0 i)
 d:∀i,i<j->Kb wr (T i) (Hl T k0 i)
theorem SC.set{G:Nat->Value}{i j:Nat}{T:Nat->Ac}{s:Int}(h:SC G i (T i) s)(hij:i≠j)(r:Nat)(hr:r<7)(v:Value):SC (fun q=>if q=j*7+r then v else G q) i (T i) s:=
 ⟨by rw[if_neg (by omega)];exact h.n0,by rw[if_neg (by omega)];exact h.n1,by rw[if_neg (by omega)];exact h.n3,by rw[if_neg (by omega)];exact h.n6⟩
theorem Oo(g n cap m B:Nat)(T:Nat->Ac)(k0:Int)(w:World)(hn:n<=1000)(hm:n*7<=m)(h0:1<=k0)(h1:k0<=1000000)(hS:bF g n T)(hz:I6 n T)(hT:∀j,j<n->(T j).new B w)(hR:∃G,w.rowIs g 86 m G/\Tn G n T):
 Calls prog 30 #[.slice (some ⟨g,0,none⟩) n cap,.int .i64 k0] w fun e w'=>e= .returned (.int .i64 (Hl T k0 n))/\YF g m n B T k0 w w' n:=by
 have HS:=hid hS;have HT:=hid hT;have HZ:=hid hz;have I0:Hid (YF g m n B T k0 w w 0):=hid ⟨AH.refl _ _,by obtain⟨G,r,s⟩:=hR;exact⟨G,r,s,fun i hi=>absurd hi (Nat.not_lt_zero _)⟩,fun i hi=>absurd hi (Nat.not_lt_zero _)⟩;clear hS hT hz hR;go_enter func30,ntmps30
 go_wp2;go_loopw [1,5] (fun kk i wr=>∃j:Nat,j<=n/\i= .int .i64 j/\kk= .int .i64 (Hl T k0 j)/\Hid (YF g m n B T k0 w wr j)) (fun _ i _=>n-(intOf i).toNat)
 case atStart=>exact⟨0,Nat.zero_le _,rfl,rfl,I0⟩
 case round=>
  clear I0;obtain⟨j,hj,rfl,rfl,HI⟩:=hrel;obtain⟨x0,x1⟩:=Km (k0:=k0) HZ j hj;by_cases hlt:j<n
  ·have i1:(j:Int)<(n:Int):=(by omega);obtain⟨G,hR,hSl,hNu⟩:=HI.out.r;obtain⟨s1,s2,s3⟩:=hSl j hlt;obtain⟨k1,k2,k3⟩:=HZ.out j hlt;have NJ:=hid ((HT j hlt).jD HI.out.t (fun b hb hh=>by
    rcases hh with e|⟨i,hi,h⟩
    ·subst e;exact HS.out.g j hlt hb
    ·exact HS.out.ne i j (by omega) hlt (by omega) b h hb))
   have ng:=HS.out.g j hlt;have a12:=HS.out.a12 j hlt;have a13:=HS.out.a13 j hlt;have a23:=HS.out.a23 j hlt;have es:Hid (Hl T k0 (j+1)=Hl T k0 j+(T j).ml):=hid rfl;have KEEP:=hid HI.out.d;have TB0:=hid HI.out.t;generalize Hl T k0 j=x at *;have z0:=hR.cell (i:=j*7) (by omega);have z1:=hR.cell (i:=j*7+1) (by omega);have z2:=hR.cell (i:=j*7+2) (by omega);rw[s1]at z2;have zf:=hR.frozen;have RG:Hid (∃G1,((wr.setCell ⟨g,j*7,none⟩ (.int .i64 x)).setCell ⟨g,j*7+1,none⟩ (.int .i64 (x+1))).rowIs g 86 m G1/\Tn G1 n T/\(∀i,i<j->SC G1 i (T i) (Hl T k0 i))/\G1 (j*7)= .int .i64 x/\G1 (j*7+1)= .int .i64 (x+1)):=hid ⟨_,(hR.set (j*7) (.int .i64 x)).set (j*7+1) (.int .i64 (x+1)),(hSl.set j 0 (by omega) (.int .i64 x)).set j 1 (by omega) (.int .i64 (x+1)),fun i hi=>((hNu i hi).set (by omega) 0 (by omega) _).set (by omega) 1 (by omega) _,by rw[if_neg (by omega),if_pos rfl],by rw[if_pos rfl]⟩;have U1:=hid (((AH.refl (fun b=>b=g) wr).put rfl (j*7) (.int .i64 x)).put rfl (j*7+1) (.int .i64 (x+1)));have N1:=hid (NJ.out.jD U1 (fun b hb e=>by subst e;exact ng hb));have C1:=hid (Iw (T j).c1 B (x+1+1) _ (by omega) (by omega) (by omega) N1.out.1);clear HI hSl hNu s1 s2 s3;go_wp2_with fail
   clear z0 z1 z2 zf;generalize (wr.setCell ⟨g,j*7,none⟩ (.int .i64 x)).setCell ⟨g,j*7+1,none⟩ (.int .i64 (x+1))=W1 at *;refine C1.out.mono ?_;rintro e w2 ⟨rfl,t2,cm1⟩;have CM1:=hid cm1;have U2:=hid ((U1.out.mono (H':=fun b=>b=g∨(T j).hs b) (fun b e=> .inl e)).trans (t2.mono (fun b e=> .inr (.inl e))));obtain⟨G2,R2',S2,M2,p0,p1⟩:=RG.out;have R2:=t2.row R2' (fun e=>ng (.inl e));clear R2';have N2:=hid (N1.out.2.1.jD t2 (fun b e1 e2=>a12 b e2 e1));have N3:=hid (N1.out.2.2.jD t2 (fun b e1 e2=>a13 b e2 e1));have B1:=N1.out.1.begins;have B2:=N1.out.2.1.begins;have B3:=N1.out.2.2.begins;clear RG U1 N1 C1 t2 cm1;generalize hy:x+1+1+2*((T j).c1.n:Int)=y at *;have y0:x<=y/\y<=x+42:=(by omega);have HY:=hid hy;clear hy;obtain⟨s1,s2,s3⟩:=S2 j hlt;have z3:=R2.cell (i:=j*7+3) (by omega);have z4:=R2.cell (i:=j*7+4) (by omega);rw[s2]at z4;have zf:=R2.frozen;have RG:Hid (∃G1,(w2.setCell ⟨g,j*7+3,none⟩ (.int .i64 y)).rowIs g 86 m G1/\Tn G1 n T/\(∀i,i<j->SC G1 i (T i) (Hl T k0 i))/\G1 (j*7)= .int .i64 x/\G1 (j*7+1)= .int .i64 (x+1)/\G1 (j*7+3)= .int .i64 y):=hid ⟨_,R2.set (j*7+3) (.int .i64 y),S2.set j 3 (by omega) (.int .i64 y),fun i hi=>(M2 i hi).set (by omega) 3 (by omega) _,by rw[if_neg (by omega)];exact p0,by rw[if_neg (by omega)];exact p1,by rw[if_pos rfl]⟩;have V3:=hid ((AH.refl (fun b=>b=g) w2).put rfl (j*7+3) (.int .i64 y));have C3:=hid (Iw (T j).c2 B (y+1) _ (by omega) (by omega) (by omega) (N2.out.jD V3 (fun b hb e=>by subst e;exact ng (.inr (.inl hb)))));clear R2 S2 M2 p0 p1 s1 s2 s3;go_wp2_with fail
   clear z3 z4 zf;generalize w2.setCell ⟨g,j*7+3,none⟩ (.int .i64 y)=W3 at *;refine C3.out.mono ?_;rintro e w4 ⟨rfl,t4,cm2⟩;have CM2:=hid cm2;have CM1b:=hid ((CM1.out.jD B1 V3 (fun b hb e=>by subst e;exact ng (.inl hb))).jD B1 t4 (fun b e1 e2=>a12 b e1 e2));have U4:=hid ((U2.out.trans (V3.out.mono (fun b e=> .inl e))).trans (t4.mono (fun b e=> .inr (.inr (.inl e)))));obtain⟨G4,R4',S4,M4,p0,p1,p3⟩:=RG.out;have R4:=t4.row R4' (fun e=>ng (.inr (.inl e)));clear R4';have N4:=hid ((N3.out.jD V3 (fun b hb e=>by subst e;exact ng (.inr (.inr hb)))).jD t4 (fun b e1 e2=>a23 b e2 e1));clear RG C3 V3 U2 N2 N3 CM1 t4 cm2;generalize hv:y+1+2*((T j).c2.n:Int)=v at *;have v0:x<=v/\v<=x+90:=(by omega);have HV:=hid hv;clear hv;obtain⟨s1,s2,s3⟩:=S4 j hlt;have z5:=R4.cell (i:=j*7+5) (by omega);rw[s3]at z5;have C5:=hid (PV (T j).own B v _ (by omega) (by omega) (by omega) N4);clear s1 s2 s3;go_wp2_with fail
   refine C5.out.mono ?_;rintro e w6 ⟨rfl,t6,cm3⟩;have CM3:=hid cm3;have CM1c:=hid (CM1b.out.jD B1 t6 (fun b e1 e2=>a13 b e1 e2));have CM2c:=hid (CM2.out.jD B2 t6 (fun b e1 e2=>a23 b e1 e2));have U6:=hid (U4.out.trans (t6.mono (fun b e=> .inr (.inr (.inr e)))));have R6:=t6.row R4 (fun e=>ng (.inr (.inr e)));clear z5 R4 C5 U4 CM1b CM2 N4 t6 cm3;generalize hu:v+((T j).own.n:Int)=u at *;have u0:x<=u/\u<=x+120:=(by omega);have HU:=hid hu;clear hu;have z6:=R6.cell (i:=j*7+6) (by omega);have zf:=R6.frozen;have V7:=hid ((AH.refl (fun b=>b=g) w6).put rfl (j*7+6) (.int .i64 u));have U7:=hid (U6.out.trans (V7.out.mono (fun b e=> .inl e)));have ng7:∀b,(T j).hs b->¬b=g:=fun b hb e=>by subst e;exact ng hb
   have FIN:Hid (YF g m n B T k0 w (w6.setCell ⟨g,j*7+6,none⟩ (.int .i64 u)) (j+1)):=hid (by
    have hyy:=HY.out;have hvv:=HV.out;have huu:=HU.out;have exj:Hl T k0 j=x:=by
     have:=es.out;show Hl T k0 j=x;have e2:Hl T k0 (j+1)=Hl T k0 j+(T j).ml:=rfl;omega
    refine⟨(TB0.out.mono (fun b e=>?_)).trans (U7.out.mono (fun b e=>?_)),⟨_,R6.set (j*7+6) (.int .i64 u),S4.set j 6 (by omega) (.int .i64 u),fun i hi=>?_⟩,fun i hi=>?_⟩
    ·rcases e with e|⟨i,hi,h⟩
     ·exact .inl e
     ·exact .inr ⟨i,by omega,h⟩
    ·rcases e with e|h
     ·exact .inl e
     ·exact .inr ⟨j,by omega,h⟩
    ·by_cases e:i=j
     ·subst e;rw[exj];refine⟨?_,?_,?_,?_⟩
      ·rw[if_neg (by omega)];exact p0
      ·rw[if_neg (by omega)];exact p1
      ·rw[if_neg (by omega),p3];congr 1;omega
      ·rw[if_pos rfl];congr 1;omega
     ·exact(M4 i (by omega)).set e 6 (by omega) _
    ·by_cases e:i=j
     ·subst e;rw[exj];have e1:x+1+1=x+2:=(by omega);have e2:y+1=x+3+2*((T i).c1.n:Int):=(by omega);have e3:v=x+3+2*((T i).c1.n:Int)+2*((T i).c2.n:Int):=(by omega);have d1:=CM1c.out;have d2:=CM2c.out;have d3:=CM3.out;rw[e1]at d1;rw[e2]at d2;rw[e3]at d3;exact⟨d1.jD B1 V7 (fun b hb=>ng7 b (.inl hb)),d2.jD B2 V7 (fun b hb=>ng7 b (.inr (.inl hb))),d3.jD B3 V7 (fun b hb=>ng7 b (.inr (.inr hb)))⟩
     ·refine(KEEP i (by omega)).jD ?_ U7 (fun b hb h=>?_)
      ·exact(HT i (by omega)).begs
      ·rcases h with rfl|h
       ·exact HS.out.g i (by omega) hb
       ·exact HS.out.ne i j (by omega) hlt e b hb h)
   have eu:u+1=Hl T k0 (j+1):=by
    have:=es.out;have:=HY.out;have:=HV.out;have:=HU.out;unfold Ac.ml at *;omega
   clear KEEP TB0 es;go_wp2;exact⟨⟨j+1,by omega,by go_num,by first|rfl|rw[eu],FIN⟩,by simp[intOf];omega⟩
  ·have ej:n=j:=(by omega);have i1:¬(j:Int)<(n:Int):=(by omega);subst ej;go_wp2;go_ret;exact⟨rfl,HI⟩
theorem Ol(g n cap m:Nat)(T:Nat->Ac)(k0:Int)(w:World)(hn:n<=1000)(hm:n*7<=m)(h0:1<=k0)(h1:k0<=1000000)(hz:I6 n T)(hR:∃G,w.rowIs g 86 m G/\Tn G n T/\∀i,i<n->SC G i (T i) (Hl T k0 i))(hd:∀i,i<n->Kb w (T i) (Hl T k0 i)):
 Calls prog 33 #[.slice (some ⟨g,0,none⟩) n cap,.int .i64 k0] w fun e w'=>e= .returned (.int .i64 (Hl T k0 n))/\w'=w:=by
 have HZ:=hid hz;have HD:=hid hd;have HR:=hid hR;clear hz hd hR;go_enter func33,ntmps33
 go_wp2;go_loopw [1,5] (fun kk i wr=>∃j:Nat,j<=n/\i= .int .i64 j/\kk= .int .i64 (Hl T k0 j)/\wr=w) (fun _ i _=>n-(intOf i).toNat)
 case atStart=>exact⟨0,Nat.zero_le _,rfl,rfl,rfl⟩
 case round=>
  obtain⟨j,hj,rfl,rfl,ew⟩:=hrel;subst ew;obtain⟨x0,x1⟩:=Km (k0:=k0) HZ j hj;by_cases hlt:j<n
  ·have i1:(j:Int)<(n:Int):=(by omega);obtain⟨G,hRw,hSl,hNu⟩:=HR.out;obtain⟨s1,s2,s3⟩:=hSl j hlt;obtain⟨k1,k2,k3⟩:=HZ.out j hlt;obtain⟨n0,n1,n3,n6⟩:=hNu j hlt;obtain⟨d1,d2,d3⟩:=HD.out j hlt;have es:Hid (Hl T k0 (j+1)=Hl T k0 j+(T j).ml):=hid rfl;have z0:=hRw.cell (i:=j*7) (by omega);have z1:=hRw.cell (i:=j*7+1) (by omega);have z2:=hRw.cell (i:=j*7+2) (by omega);have z3:=hRw.cell (i:=j*7+3) (by omega);have z4:=hRw.cell (i:=j*7+4) (by omega);have z5:=hRw.cell (i:=j*7+5) (by omega);have z6:=hRw.cell (i:=j*7+6) (by omega);rw[n0]at z0;rw[n1]at z1;rw[s1]at z2;rw[n3]at z3;rw[s2]at z4;rw[s3]at z5;rw[n6]at z6;generalize Hl T k0 j=x at *;have e1:x+1+1=x+2:=(by omega);have C1:=hid (FV (T j).c1.a (T j).c1.n (T j).c1.k (x+1+1) wr (by omega) (by omega) (by omega) (by rw[e1];exact d1));have e2:x+1+1+2*((T j).c1.n:Int)=x+2+2*((T j).c1.n:Int):=(by omega);have C2:=hid (FV (T j).c2.a (T j).c2.n (T j).c2.k (x+2+2*((T j).c1.n:Int)+1) wr (by omega) (by omega) (by omega) (by rw[show x+2+2*((T j).c1.n:Int)+1=x+3+2*((T j).c1.n:Int) from by omega];exact d2));have C3:=hid (Il (T j).own.a (T j).own.n (T j).own.k (x+3+2*((T j).c1.n:Int)+2*((T j).c2.n:Int)) wr (by omega) (by omega) (by omega) d3);unfold Al.val at z2 z4;unfold Av.val at z5;clear hRw hSl hNu s1 s2 s3 n0 n1 n3 n6 d1 d2 d3 e1;go_wp2_with fail
   refine C1.out.mono ?_;rintro e w2 ⟨rfl,rfl⟩;rw[e2];have p1:¬x+2+2*((T j).c1.n:Int)<0:=(by omega);clear C1 e2;go_wp2_with fail
   refine C2.out.mono ?_;rintro e w3 ⟨rfl,rfl⟩;have e3:x+2+2*((T j).c1.n:Int)+1+2*((T j).c2.n:Int)=x+3+2*((T j).c1.n:Int)+2*((T j).c2.n:Int):=(by omega);rw[e3];have p2:¬x+3+2*((T j).c1.n:Int)+2*((T j).c2.n:Int)<0:=(by omega);clear C2 e3;go_wp2_with fail
   refine C3.out.mono ?_;rintro e w4 ⟨rfl,rfl⟩;have p3:¬x+3+2*((T j).c1.n:Int)+2*((T j).c2.n:Int)+((T j).own.n:Int)<0:=(by omega);have eu:x+3+2*((T j).c1.n:Int)+2*((T j).c2.n:Int)+((T j).own.n:Int)+1=Hl T k0 (j+1):=by
    have:=es.out;unfold Ac.ml at *;omega
   clear C3;go_wp2;exact⟨⟨j+1,by omega,by go_num,by first|rfl|rw[eu],by first|rfl|trivial⟩,by simp[intOf];omega⟩
  ·have ej:n=j:=(by omega);have i1:¬(j:Int)<(n:Int):=(by omega);subst ej;go_wp2;go_ret;exact⟨rfl,rfl⟩
end Go.Proofs.YtmikapeeflcbfaaGreatDoor
