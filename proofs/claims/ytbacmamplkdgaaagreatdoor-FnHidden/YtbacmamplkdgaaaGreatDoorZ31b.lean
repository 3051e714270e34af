import Derived.Test.YtbacmamplkdgaaaGreatDoorNF4b
import Derived.Test.YtbacmamplkdgaaaGreatDoorZ5b
import Derived.Test.YtbacmamplkdgaaaGreatDoorZ3b
import Derived.Test.YtbacmamplkdgaaaGreatDoorZ0b
import Derived.Test.YtbacmamplkdgaaaGreatDoorZ2b
import Derived.Test.YtbacmamplkdgaaaGreatDoorZ13b
import Derived.Test.YtbacmamplkdgaaaGreatDoorZ9b
set_option maxRecDepth 100000
set_option maxHeartbeats 8000000
namespace Go.Proofs.YtbacmamplkdgaaaGreatDoor
open Go Go.RowKit Go.Deep Go.Maps Go.BigFrame Go.Shelf
structure KerF(lt:List ThrV)(lo:List ObjV):Prop where
 tn:1≤lt.length∧lt.length≤9
 on:1≤lo.length∧lo.length≤271
 t:∀x∈lt,x.small
 o:∀x∈lo,x.small∧(0≤x.id∧x.id≤1000000)∧InI x.up
theorem okL_F{lt:List ThrV}{lo:List ObjV}(ok:okL lt lo=true):KerF lt lo:=by
 refine⟨okL_tn ok,okL_on ok,fun x hx=>(okL_thr ok x hx).small,fun x hx=>?_⟩;have f:=okL_obj ok x hx;have it:=okL_items ok x hx;refine⟨⟨by have:=(lab_rise f.l1).2;omega,by have:=plain_size f.data;omega,⟨by omega,fun i hi=>by have:=plain_size (it.2 i hi);omega⟩,by have:=own_n f.own;omega,by have:=(lab_rise f.l2).2;omega⟩,okL_id ok x hx,?_⟩;obtain⟨i,hi,e⟩:=List.mem_iff_getElem.1 hx;have e2:atOwnOb lo i=x:=(atOwnOb_get hi).trans e;by_cases h0:i=0
 ·subst h0;have:=(okL_root ok).2.2;rw[e2]at this;rw[this];exact InI.of (by omega) (by omega)
 ·obtain⟨p,p1,p2,_⟩:=(kerOk_iff.1 ok).box i (by omega) hi;have p3:(atOwnOb lo p).id=(atOwnOb lo i).up:=p2;have hp:p<lo.length:=p1;have:=okL_id ok _ (List.getElem_mem hp);rw[e2,atOwnOb_get hp]at p3;rw[←p3];exact InI.of (by omega) (by omega)
theorem KerD.F{lt:List ThrV}{lo:List ObjV}(h:KerD lt lo):KerF lt lo:=by
 cases h with
 |right h=>exact okL_F h
 |up h u o d hu ho hd=>
  have f:=okL_F h;refine⟨f.tn,by simpa using f.on,f.t,fun x hx=>?_⟩;rcases mem_set hx with rfl|hx
  ·have:=f.o _ (List.getElem_mem hu);rw[←ho]at this;exact⟨this.1,this.2.1,hd⟩
  ·exact f.o x hx
 |kind h u o d hu ho hd=>
  have f:=okL_F h;refine⟨f.tn,by simpa using f.on,f.t,fun x hx=>?_⟩;rcases mem_set hx with rfl|hx
  ·have:=f.o _ (List.getElem_mem hu);rw[←ho]at this;exact this
  ·exact f.o x hx
 |made h X d ht hX hd=>
  have f:=okL_F h;refine⟨by simpa using f.tn,f.on,fun x hx=>?_,f.o⟩;rcases mem_set hx with rfl|hx
  ·have:=f.t _ (List.getElem_mem ht);rw[←hX]at this;exact this
  ·exact f.t x hx
theorem KerF.data{lt:List ThrV}{lo:List ObjV}(h:KerF lt lo):∀x∈lo,x.data.size≤maxLen:=fun x hx=>by
 have:=(h.o x hx).1.2.1;unfold maxLen;omega
theorem big_any(a:Option Addr)(n cap:Nat)(w:World):Calls Tryz.prog 6 #[.slice a n cap] w fun e w'=>e= .returned (.bool (decide (1048576<n)))∧w'=w:=by
 go_enter Tryz.func6,Tryz.ntmps6
 go_wp2;go_ret;refine⟨ret_bool ?_,rfl⟩;congr 1;apply propext;omega
theorem wf_in{x:Int}(h:InI x):(Lit.int .i64 x).wf=true:=by
 have e1:IntKind.i64.min= -9223372036854775808:=by decide
 have e2:IntKind.i64.max=9223372036854775807:=by decide
 simp[Lit.wf,e1,e2];unfold InI at h;omega
theorem lawHas_any(a:Option Addr)(n cap:Nat)(h:Nat→Int)(x:Int)(w:World)(hn:n≤maxLen)(hc:IntsAt w a n h):
 Calls Tryz.prog 16 #[.slice a n cap,.int .i64 x] w fun e w'=>e= .returned (.bool (hasB n h x))∧w'=w:=by
 unfold maxLen at hn;go_enter Tryz.func16,Tryz.ntmps16
 go_wp2;go_loop [5] (fun i=>∃k:Nat,k≤n∧i= .int .i64 k∧(∀j,j<k→h j≠x)) (fun i=>n-(intOf i).toNat)
 case atStart=>exact⟨0,Nat.zero_le _,rfl,fun j hj=>by omega⟩
 case round=>
  obtain⟨k,hk,rfl,hall⟩:=hrel;have HA:Hid (∀j,j<k→h j≠x):=hall;clear hall;by_cases hlt':k<n
  ·obtain⟨b,off,rfl,hlt,hcc⟩:=hc (by omega);have g1:=hcc k hlt';clear hcc hc;by_cases t:(h k==x)=true
   ·go_wp2;go_ret;exact⟨ret_bool (hasB_yes hlt' (by simpa using t)).symm,rfl⟩
   ·have t':(h k==x)=false:=(by simpa using t);clear t;go_wp2;go_round;case rel=>
     refine⟨k+1,by omega,by go_num,fun j hj=>?_⟩;by_cases e:j=k
     ·subst e;simpa using t'
     ·exact HA.out j (by omega)
    case measure=>simp[intOf];omega
  ·clear hc;go_wp2;go_ret;have e:k=n:=(by omega);subst e;exact⟨ret_bool (hasB_no HA.out).symm,rfl⟩
theorem KSt.kat{w:World}{B ca co:Nat}{ta oa:Option Addr}{lt:List ThrV}{lo:List ObjV}(h:KSt w B (.slice ta lt.length ca) (.slice oa lo.length co) lt lo)(f:KerF lt lo):(kOf ta ca oa co lt lo).at w:=
 h.at (by have:=f.tn.2;omega) (by have:=f.on.2;omega) f.data
theorem KerF.wf{lt:List ThrV}{lo:List ObjV}(f:KerF lt lo):∀i,i<lo.length→(Lit.int .i64 (atOwnOb lo i).id).wf=true∧(Lit.int .i64 (atOwnOb lo i).up).wf=true:=fun i hi=>by
 have h:=f.o _ (List.getElem_mem hi);rw[atOwnOb_get hi];exact⟨wf_small h.2.1,wf_in h.2.2⟩
theorem obs_results(tmps:Array Value)(W:World)(P:Nat)(x y:Value)(h:Blk W P (.cells #[x,y] 30))(h2:tmps[2]? =some (.pointer (some ⟨P,0,none⟩))):
 (results Tryz.f55 tmps).run Tryz.prog W= .ok (.agg #[x,y]) W:=by
 obtain⟨z0,z1⟩:=h.two;simp[results,Tryz.results55,go_sem,h2,z0,z1]
theorem grown_put2{w W:World}{rb P:Nat}(g:w.grownBy W (some rb))(hP:w.heap.size≤P)(x y:Value):w.grownBy ((W.setCell ⟨P,0,none⟩ x).setCell ⟨P,1,none⟩ y) (some rb):=
 grown_trans g (grown_set (grown_set (grown_refl W P) _ _) _ _) (fun j e=>by cases e;exact hP)
theorem catL_zero_new(B:Nat)(w:World):CatL.new B w ⟨none,0,0,fun _=>0,fun _=>0⟩:=⟨⟨Nat.zero_le _,fun h=>absurd h (Nat.lt_irrefl 0)⟩,fun h=>absurd h (Nat.lt_irrefl 0)⟩
theorem rdObs_any(w0:World)(rb:Nat)(a:Option Addr)(n cap:Nat)(w:World)(h:Rd w0 w rb a n cap):
 Calls Tryz.prog 55 #[.pointer (some ⟨rb,0,none⟩)] w fun e w'=>∃(b:Int) (c:CatL),e= .returned (.agg #[.int .i64 b,.slice c.a c.n c.k])∧c.n≤3∧c.new w.heap.size w'∧Rd w0 w' rb a n cap∧w.grownBy w' (some rb):=by
 have HR:Hid (Rd w0 w rb a n cap):=h;have lr:=h.lt;have le0:=h.le;have K0:=hid ((Below.refl _ w).alloc (Nat.le_refl _) (.cells #[.int .i64 0,.slice none 0 0] 30));have Y0:=hid (Blk.new w (.cells #[.int .i64 0,.slice none 0 0] 30));have R0:=hid (h.below K0.out);have G0:Hid (w.grownBy (w.alloc (.cells #[.int .i64 0,.slice none 0 0] 30)) (some rb)):=hid (grown_trans (grown_refl w rb) (World.grownBy_alloc w _ none) (fun j e=>by cases e));have WZ:Hid (w0.heap.size≤w.heap.size):=hid (by omega);clear h;go_enter Tryz.func55,Tryz.ntmps55
 go_wp2_with fail
 generalize w.alloc (.cells #[.int .i64 0,.slice none 0 0] 30)=V at *;refine(once_any w0 rb a n cap 2 V (by omega) R0.out).mono ?_;rintro e u1 ⟨t,rfl,r1,g1⟩;have R1:=hid r1;have Y1:=hid (Y0.out.grown g1 (by simp;omega));have G1:=hid (grown_pair G0.out g1);clear r1 g1 Y0 R0 G0 K0;obtain⟨y0,y1⟩:=Y1.out.two;have yw:=Y1.out.warm;cases t with
 |true=>
  go_wp2;refine bodyPost_ret (obs_results _ _ w.heap.size _ _ ((Y1.out.setAt (i:=0) _).setAt (i:=1) _) rfl) rfl ⟨1,⟨none,0,0,fun _=>0,fun _=>0⟩,rfl,Nat.zero_le _,catL_zero_new _ _,?_,?_⟩
  ·exact R1.out.other (grown_set (grown_set (grown_refl u1 w.heap.size) _ _) _ _) WZ.out (by omega)
  ·exact grown_put2 G1.out (Nat.le_refl _) _ _
 |false=>
  go_wp2_with fail
  refine(rdLabel_any w0 rb a n cap u1 R1.out).mono ?_;rintro e u2 ⟨b,l,va,vc,rfl,ll,ol,r2,g2⟩;have R2:=hid r2;have Y2:=hid (Y1.out.grown g2 (by simp;omega));have G2:=hid (grown_pair G1.out g2);have OL:=hid (ownCats_new ol (by omega));have sz:w.heap.size<u1.heap.size:=Y1.out.lt;clear r2 g2 ol Y1 R1 G1 y0 y1 yw;obtain⟨y0,y1⟩:=Y2.out.two;have yw:=Y2.out.warm;go_wp2;refine bodyPost_ret (obs_results _ _ w.heap.size _ _ ((Y2.out.setAt (i:=0) _).setAt (i:=1) _) rfl) rfl ⟨b,⟨va,l.length,vc,fstAt l,sndAt l⟩,rfl,ll,?_,?_,?_⟩
  ·exact(OL.out.grownR (grown_set (grown_set (grown_refl u2 w.heap.size) _ _) _ _) sz).low (Nat.le_of_lt sz)
  ·exact R2.out.other (grown_set (grown_set (grown_refl u2 w.heap.size) _ _) _ _) WZ.out (by omega)
  ·exact grown_put2 G2.out (Nat.le_refl _) _ _
theorem view_results(tmps:Array Value)(W:World)(P L:Nat)(x y b c:Value)(h:Blk W P (.cells #[x,y] 27))(hl:Blk W L (.cells #[b,c] 30))(h2:tmps[2]? =some (.pointer (some ⟨P,0,none⟩)))(h3:tmps[3]? =some (.pointer (some ⟨L,0,none⟩))):
 (results Tryz.f18 tmps).run Tryz.prog W= .ok (.tuple #[.agg #[x,y],.agg #[b,c]]) W:=by
 obtain⟨z0,z1⟩:=h.two;obtain⟨y0,y1⟩:=hl.two;simp[results,Tryz.results18,go_sem,h2,h3,z0,z1,y0,y1]
def ViewD(w:World)(e:Ending)(w':World):Prop:=∃(lt:List ThrV) (lo:List ObjV) (g ca q co:Nat) (b:Int) (c:CatL),e= .returned (.tuple #[.agg #[.slice (some ⟨g,0,none⟩) lt.length ca,.slice (some ⟨q,0,none⟩) lo.length co],.agg #[.int .i64 b,.slice c.a c.n c.k]])∧KSt w' w.heap.size (.slice (some ⟨g,0,none⟩) lt.length ca) (.slice (some ⟨q,0,none⟩) lo.length co) lt lo∧KerD lt lo∧c.n≤3∧c.new w.heap.size w'∧Below w.heap.size w w'
theorem drawView_any(a:Option Addr)(n cap:Nat)(w:World)(hn:n≤1048576)(hb:BytesAt w a n):
 Calls Tryz.prog 18 #[.slice a n cap] w fun e w'=>ViewD w e w':=by
 have b1:Below w.heap.size w (w.alloc (.cells #[.slice none 0 0,.slice none 0 0] 27)):=(Below.refl _ w).alloc (Nat.le_refl _) _;have B0:Hid (Below w.heap.size w ((w.alloc (.cells #[.slice none 0 0,.slice none 0 0] 27)).alloc (.cells #[.int .i64 0,.slice none 0 0] 30))):=hid (b1.alloc (by simp) _);have R0:Hid (Blk ((w.alloc (.cells #[.slice none 0 0,.slice none 0 0] 27)).alloc (.cells #[.int .i64 0,.slice none 0 0] 30)) w.heap.size (.cells #[.slice none 0 0,.slice none 0 0] 27)):=hid ((Blk.new w _).alloc _);have Q0:Hid (Blk ((w.alloc (.cells #[.slice none 0 0,.slice none 0 0] 27)).alloc (.cells #[.int .i64 0,.slice none 0 0] 30)) (w.heap.size+1) (.cells #[.int .i64 0,.slice none 0 0] 30)):=hid (by have:=Blk.new (w.alloc (.cells #[.slice none 0 0,.slice none 0 0] 27)) (.cells #[.int .i64 0,.slice none 0 0] 30);simpa using this);have HB:=hid (hb.below B0.out);clear hb b1;go_enter Tryz.func18,Tryz.ntmps18
 go_wp2_with fail
 generalize (w.alloc (.cells #[.slice none 0 0,.slice none 0 0] 27)).alloc (.cells #[.int .i64 0,.slice none 0 0] 30)=V at *;refine(l1Open_any a n cap V hn HB.out).mono ?_;rintro e w1 ⟨rb,rfl,r1⟩;have R1:=hid r1;have l1:=r1.lt;have le1:=r1.le;clear r1;have v1:w.heap.size+1<V.heap.size:=Q0.out.lt;go_wp2_with fail
 refine(rdKernel_any V rb a n cap w1 R1.out 14 (by omega)).mono ?_;rintro e w2 ⟨lt,lo,g,ca,q,co,rfl,ks,kd,r2,g2⟩;have KD:=hid kd;have K3:=hid (ks.below ((Below.refl _ w2).alloc (Nat.le_refl _) (.cells #[.slice (some ⟨g,0,none⟩) lt.length ca,.slice (some ⟨q,0,none⟩) lo.length co] 27)));have C3:=hid (Blk.new w2 (.cells #[.slice (some ⟨g,0,none⟩) lt.length ca,.slice (some ⟨q,0,none⟩) lo.length co] 27));have R3:=hid (r2.below ((Below.refl _ w2).alloc (Nat.le_refl _) (.cells #[.slice (some ⟨g,0,none⟩) lt.length ca,.slice (some ⟨q,0,none⟩) lo.length co] 27)));have c2:w.heap.size+1<w2.heap.size:=by have:=g2.size;omega
 have c3:rb<w2.heap.size:=by have:=g2.size;omega
 clear r2 ks kd g2 R1;go_wp2_with fail
 generalize w2.alloc (.cells #[.slice (some ⟨g,0,none⟩) lt.length ca,.slice (some ⟨q,0,none⟩) lo.length co] 27)=W3 at *;have c4:w2.heap.size<W3.heap.size:=C3.out.lt;generalize w2.heap.size=C at *;have DR:Hid (KSt W3.drew w1.heap.size (.slice (some ⟨g,0,none⟩) lt.length ca) (.slice (some ⟨q,0,none⟩) lo.length co) lt lo∧Blk W3.drew C (.cells #[.slice (some ⟨g,0,none⟩) lt.length ca,.slice (some ⟨q,0,none⟩) lo.length co] 27)):=hid ⟨K3.out.below (below_drew (Below.refl _ W3)),C3.out.below (below_drew (Below.refl _ W3))⟩;have E1:Hid (∀args w,(callFunc 55 args).run Tryz.prog w= .ok (.enter 55 args) w):=hid (enters_of Tryz.func55 (by kernel_rfl) rfl);have FI:Hid (Calls Tryz.prog 55 #[.pointer (some ⟨rb,0,none⟩)] W3.drew fun e w'=>∃v,e= .returned v∧(∃(b:Int) (c:CatL),v= .agg #[.int .i64 b,.slice c.a c.n c.k]∧c.n≤3∧c.new (w.heap.size+2) w'∧(KSt w' w1.heap.size (.slice (some ⟨g,0,none⟩) lt.length ca) (.slice (some ⟨q,0,none⟩) lo.length co) lt lo∧Blk w' C (.cells #[.slice (some ⟨g,0,none⟩) lt.length ca,.slice (some ⟨q,0,none⟩) lo.length co] 27))∧Blk w' w.heap.size (.cells #[.slice none 0 0,.slice none 0 0] 27)∧Blk w' (w.heap.size+1) (.cells #[.int .i64 0,.slice none 0 0] 30)∧Below w.heap.size w w')):=hid (by
  have rd:=R3.out.drew;refine(rdObs_any V rb a n cap W3.drew rd).mono ?_;rintro e w' ⟨b,c,e1,hc,hn,r,g'⟩;exact⟨_,e1,b,c,rfl,hc,hn.low (by have:W3.drew.heap.size=W3.heap.size:=rfl;omega),⟨DR.out.1.grownR g' l1,DR.out.2.grown g' (by simp;omega)⟩,R0.out.below r.E,Q0.out.below r.E,then_ B0.out r.E⟩)
 refine wp_region_G 4 (fun W=>KSt W w1.heap.size (.slice (some ⟨g,0,none⟩) lt.length ca) (.slice (some ⟨q,0,none⟩) lo.length co) lt lo∧Blk W C (.cells #[.slice (some ⟨g,0,none⟩) lt.length ca,.slice (some ⟨q,0,none⟩) lo.length co] 27)) (by kernel_rfl) ?_;refine tq 0 10 (.agg #[.slice (some ⟨g,0,none⟩) lt.length ca,.slice (some ⟨q,0,none⟩) lo.length co]) DR.out ?_ (hy:=fun W h=>by obtain⟨z0,z1⟩:=h.2.two;go_simp);simp only[ap,List.set];refine tq 1 11 (.pointer (some ⟨rb,0,none⟩)) DR.out ?_;simp only[ap,List.set];generalize W3.drew=WD at *;refine wpAnyG_one (i:=2) (by kernel_rfl) rfl ?_;intro K hK;refine step_call1g (by rfl) 55 _ _ (by rfl) E1.out _ (by rfl) (some 12) (by rfl) _ FI.out ?_;rintro v w4 ⟨b,c,rfl,hc,hn4,hS,hR,hQ,hB⟩;have H1:=hid hS;have RX:=hid hR;have QX:=hid hQ;have BX:=hid hB;have CN:=hid hn4;have HC:=hid hc;refine hK.out _ _ (fun _=>H1.out) ?_;clear hK K hS hR hQ hB hn4 hc FI;simp only[ap,List.set];obtain⟨r0,r1⟩:=RX.out.two;have rf:=RX.out.warm;have R5:=hid ((RX.out.setAt (i:=0) (.slice (some ⟨g,0,none⟩) lt.length ca)).setAt (i:=1) (.slice (some ⟨q,0,none⟩) lo.length co));have Q5:=hid ((QX.out.other (Q:=w.heap.size) (i:=0) (by omega) (.slice (some ⟨g,0,none⟩) lt.length ca)).other (Q:=w.heap.size) (i:=1) (by omega) (.slice (some ⟨q,0,none⟩) lo.length co));have S5:=hid (And.intro ((H1.out.1.set RX.out (.inl rfl) (i:=0) (.slice (some ⟨g,0,none⟩) lt.length ca)).set (RX.out.setAt (i:=0) _) (.inl rfl) (i:=1) (.slice (some ⟨q,0,none⟩) lo.length co)) ((H1.out.2.other (Q:=w.heap.size) (i:=0) (by omega) (.slice (some ⟨g,0,none⟩) lt.length ca)).other (Q:=w.heap.size) (i:=1) (by omega) (.slice (some ⟨q,0,none⟩) lo.length co)));have C5:=hid (CN.out.grownR (grown_set (grown_set (grown_refl w4 w.heap.size) 0 (.slice (some ⟨g,0,none⟩) lt.length ca)) 1 (.slice (some ⟨q,0,none⟩) lo.length co)) (by omega));have B5:=hid ((BX.out.setCell (p:=⟨w.heap.size,0,none⟩) (Nat.le_refl _) (.slice (some ⟨g,0,none⟩) lt.length ca)).setCell (p:=⟨w.heap.size,1,none⟩) (Nat.le_refl _) (.slice (some ⟨q,0,none⟩) lo.length co));refine wpAnyG_one (i:=3) (by kernel_rfl) rfl ?_;intro K hK;go_simp;refine hK.out _ _ (fun _=>S5.out) ?_;clear hK K r0 r1 rf RX QX H1 CN BX;try simp only[ap,List.set]
 generalize (w4.setCell ⟨w.heap.size,0,none⟩ (.slice (some ⟨g,0,none⟩) lt.length ca)).setCell ⟨w.heap.size,1,none⟩ (.slice (some ⟨q,0,none⟩) lo.length co)=w5 at *;obtain⟨r0,r1⟩:=Q5.out.two;have rf:=Q5.out.warm;refine wpAnyG_one (i:=4) (by kernel_rfl) rfl ?_;intro K hK;go_simp;refine hK.out _ _ (fun h=>absurd h (by decide)) ?_;clear hK K;try simp only[ap,List.set]
 refine wpAnyG_done (by kernel_rfl) ?_ _;go_wp2;refine bodyPost_ret (view_results _ _ w.heap.size (w.heap.size+1) _ _ _ _ ((R5.out.other (by omega) _).other (by omega) _) ((Q5.out.setAt (i:=0) _).setAt (i:=1) _) rfl rfl) rfl ⟨lt,lo,g,ca,q,co,b,c,rfl,?_,KD.out,HC.out,?_,?_⟩
 ·exact(S5.out.1.grownR (grown_set (grown_set (grown_refl w5 (w.heap.size+1)) _ _) _ _) (by omega)).base (by omega)
 ·exact(C5.out.grownR (grown_set (grown_set (grown_refl w5 (w.heap.size+1)) _ _) _ _) (by omega)).low (by omega)
 ·exact(B5.out.setCell (by simp) _).setCell (by simp) _
theorem levelsOf_any(base:Int)(a:Option Addr)(n cap:Nat)(f g:Nat→Int)(w:World)(hn:n≤1048576)(hc:CatsAt w a n f g)
 (hw:∀i,i<n→(Lit.int .i64 (f i)).wf=true∧(Lit.int .i64 (g i)).wf=true):
 Calls Tryz.prog 51 #[.agg #[.int .i64 base,.slice a n cap]] w fun e w'=>∃c,e= .returned (.agg #[.int .i64 base,.map (some c)])∧w.heap.size≤c∧MapIs w' c n (look f g n)∧w.heap.size+3<w'.heap.size∧Below w.heap.size w w':=by
 have hmm:=@run_makeMap Tryz.prog;go_enter Tryz.func51,Tryz.ntmps51
 go_wp2;go_loopw [13] (fun i wr=>∃k:Nat,k≤n∧i= .int .i64 k∧MapIs wr (w.heap.size+1+1) k (look f g k)∧wr.cell? ⟨w.heap.size+1+1+1,0,none⟩=some (.int .i64 base)∧wr.cell? ⟨w.heap.size+1+1+1,1,none⟩=some (.map (some (w.heap.size+1+1)))∧
  wr.cell? ⟨w.heap.size+1,0,none⟩=some (.int .i64 0)∧wr.cell? ⟨w.heap.size+1,1,none⟩=some (.map none)∧wr.frozen? ⟨w.heap.size+1,0,none⟩=false∧wr.frozen? ⟨w.heap.size+1,1,none⟩=false∧w.heap.size+1+1+1<wr.heap.size∧Below w.heap.size w wr) (fun i _=>n-(intOf i).toNat)
 case atStart=>
  refine⟨0,Nat.zero_le _,rfl,?_,by go_simp,by go_simp,by go_simp,by go_simp,by go_simp,by go_simp,by simp,?_⟩
  ·have:=(MapIs.made ((w.alloc (.cells #[.int .i64 base,.slice a n cap] 30)).alloc (.cells #[.int .i64 0,.map none] 91))).alloc (.cells #[.int .i64 base,.map (some (w.heap.size+1+1))] 91);simpa[look]using this
  ·exact((((Below.refl _ w).alloc (Nat.le_refl _) _).alloc (by simp) _).alloc (by simp;omega) _).alloc (by simp;omega) _
 case round=>
  obtain⟨k,hk,rfl,⟨D,hown,hD,hm⟩,x0,x1,y0,y1,f0,f1,hz,hB⟩:=hrel;clear hmm;by_cases hlt':k<n
  ·obtain⟨b,off,rfl,hlt,hcc⟩:=hc (by omega);obtain⟨h1,h2⟩:=hcc k hlt';obtain⟨w1,w2⟩:=hw k hlt';have g1:wr.cell? ⟨b,off+k*2,none⟩=some (.int .i64 (f k)):=(hB.cell (p:=⟨b,_,none⟩) hlt).trans h1;have g2:wr.cell? ⟨b,off+k*2+1,none⟩=some (.int .i64 (g k)):=(hB.cell (p:=⟨b,_,none⟩) hlt).trans h2;clear h1 h2 hcc hc;have hkey:keyOf Tryz.prog 2 (.int .i64 (f k))=some (.int .i64 (f k)):=keyOf_int_mk Tryz.underlying2 w1;have W2:Hid ((Lit.int .i64 (g k)).wf=true):=w2;clear w1 w2;go_wp2_with(at_mapUpdate;refine wpList_mapUpdate_own _ rfl _ _ _ 89 rfl 2 2 keyed2 Tryz.underlying89 _ (w.heap.size+1+1) k _ rfl (hown.alloc _) (by unfold maxLen;omega) _ _ _ rfl rfl hkey _ [] (plainElem_int Tryz.underlying2 W2.out) ?_;intro w1 hown1 hgrow1)
   have hm1:=MapIs.put (k:=f k) (v:=g k) hD hm;rw[look_setAt]at hm1;have s1:w.heap.size+1+1+1<(wr.alloc (.cells #[.int .i64 (f k),.int .i64 (g k)] 88)).heap.size:=(by simp;omega);go_roundw;case rel=>
    refine⟨k+1,by omega,by go_num,⟨_,hown1,hm1.1,hm1.2⟩,?_,?_,?_,?_,?_,?_,Nat.lt_of_lt_of_le s1 hgrow1.size,?_⟩
    ·exact(grown_cell hgrow1 s1 (by omega)).trans (((Below.refl _ wr).alloc (Nat.le_refl _) _).cell (p:=⟨_,_,none⟩) hz |>.trans x0)
    ·exact(grown_cell hgrow1 s1 (by omega)).trans (((Below.refl _ wr).alloc (Nat.le_refl _) _).cell (p:=⟨_,_,none⟩) hz |>.trans x1)
    ·exact(grown_cell hgrow1 (by omega) (by omega)).trans (((Below.refl _ wr).alloc (Nat.le_refl _) _).cell (p:=⟨_,_,none⟩) (by dsimp only;omega) |>.trans y0)
    ·exact(grown_cell hgrow1 (by omega) (by omega)).trans (((Below.refl _ wr).alloc (Nat.le_refl _) _).cell (p:=⟨_,_,none⟩) (by dsimp only;omega) |>.trans y1)
    ·exact(grown_frozen hgrow1 (by omega) (by omega)).trans (((Below.refl _ wr).alloc (Nat.le_refl _) _).frozen (p:=⟨_,_,none⟩) (by dsimp only;omega) |>.trans f0)
    ·exact(grown_frozen hgrow1 (by omega) (by omega)).trans (((Below.refl _ wr).alloc (Nat.le_refl _) _).frozen (p:=⟨_,_,none⟩) (by dsimp only;omega) |>.trans f1)
    ·exact(hB.alloc (by omega) _).grown hgrow1 (by omega) (fun j hj=>by cases hj;omega)
   case measure=>simp[intOf];omega
  ·clear hc;have e:k=n:=(by omega);have HM:MapIs wr (w.heap.size+1+1) n (look f g n):=(by rw[←e];exact⟨D,hown,hD,hm⟩);clear hown hD hm e;go_wp2;refine bodyPost_ret (v:= .agg #[.int .i64 base,.map (some (w.heap.size+1+1))]) (by simp[results,Tryz.results51,go_sem, *]) rfl ⟨_,rfl,by omega,?_,?_,?_⟩
   ·exact(HM.setCell (by dsimp only;omega) _).setCell (by dsimp only;omega) _
   ·simpa using hz
   ·exact(hB.setCell (by dsimp only;omega) _).setCell (by dsimp only;omega) _
open Go.Sort
open Go.WideShapes (add_plain)
theorem Tryz.sortsA(m:Nat):AnyZI.SortsIn Tryz.prog Tryz.sortedA_ren Fence.wide m:=
 ⟨fun blk off cap ss W hH hblk hsz=>callsIn_wide.2 (AnyM.slices_Sort_int Tryz.sortA blk off cap ss W hH hblk hsz),
  fun p cap W=>callsIn_wide.2 (AnyM.slices_Sort_int_none Tryz.sortA p cap W)⟩
theorem keys_any(mb:Option Nat)(W:World):Calls Tryz.prog 87 #[.map mb] W fun e w'=>e= .returned (.func (.func 113) #[] #[.pointer (some ⟨W.heap.size,0,none⟩)])∧w'=W.alloc (.cells #[.map mb] 89):=
 (callsIn_wide (n:=5)).1 (AnyZI.keys_in Tryz.keysA Fence.wide 5 trivial rfl mb W)
theorem mem_intKeys{w:World}{b n:Nat}{D:DataW Unit}(hown:w.ownsMap Tryz.prog 2 (plainElem Tryz.prog 2) b n D):(intKeys D).Nodup∧∀x,x∈intKeys D↔Maps.has D (.int .i64 x)=true:=by
 obtain⟨es,hD,hpw,_⟩:=hown.entries keyed2;obtain⟨es',hD',hko⟩:=hown.keysOf;obtain rfl:es=es':=by rw[hD]at hD';simpa using hD'
 subst hD;have hk:∀p∈es,∃x,p.1= .int .i64 x:=fun p hp=>by
  obtain⟨v,hv⟩:=hko p hp;obtain⟨x,_,hx,_⟩:=Maps.keyOf_i64 Tryz.underlying2 hv;exact⟨x,hx⟩
 constructor
 ·show(es.map fun p=>Go.intOf p.1).Nodup;refine List.pairwise_map.2 (hpw.imp_of_mem fun{p q} hp' hq' hne e=>hne ?_);obtain⟨a,ha⟩:=hk p hp';obtain⟨b,hb⟩:=hk q hq';rw[ha,hb]at e ⊢;exact congrArg _ e
 ·intro x;rw[has_eq,List.any_eq_true];show x∈es.map (fun p=>Go.intOf p.1)↔_;rw[List.mem_map];constructor
  ·rintro⟨p,hp',rfl⟩;obtain⟨a,ha⟩:=hk p hp';exact⟨p,hp',by rw[ha];simp[Lit.sameKey,Go.intOf]⟩
  ·rintro⟨p,hp',hs⟩;obtain⟨a,ha⟩:=hk p hp';rw[ha]at hs;exact⟨p,hp',by rw[ha];simpa[Lit.sameKey,Go.intOf]using hs⟩
def nth(l:List Int)(i:Nat):Int:=l.getD i 0
theorem rises_sorted{l:List Int}(hs:l.Pairwise (fun a b=>a≤b))(hn:l.Nodup):∀j,j<l.length→∀i,i<j→nth l i<nth l j:=by
 intro j hj i hi;have hp:=hs.and hn;have:=List.pairwise_iff_getElem.1 hp i j (by omega) hj hi;simp only[nth,List.getD_eq_getElem?_getD,List.getElem?_eq_getElem hj,List.getElem?_eq_getElem (show i<l.length by omega),Option.getD_some];have h1:=this.1;have h2:=this.2;omega
theorem IntsAt.of_owns{w:World}{B n:Nat}{v:Value}{l:List Int}(h:w.ownsRow B 2 1 v n (l.map Go.encZ)):l.length=n∧∃a c,v= .slice a n c∧IntsAt w a n (nth l)∧∀x,a=some x→B≤x.block:=by
 have hl:l.length=n:=by have:=h.1;simpa using this
 refine⟨hl,?_⟩;rcases h.2 with⟨rfl,rfl⟩|⟨gb,cap,cur,rfl,_⟩
 ·exact⟨_,_,rfl,(fun h0=>by omega),fun x e=>by cases e⟩
 ·refine⟨_,_,rfl,fun h0=>?_,fun x e=>by cases e;exact(World.ownsRow.lt h gb rfl).1⟩;have hc:=World.ownsRow.cells h (g:=gb) rfl;have hlt:=(World.ownsRow.lt h gb rfl).2;refine⟨gb,0,rfl,hlt,fun i hi=>?_⟩;have hi':i<l.length:=by omega
  have t:=hc i (Go.encZ l[i]) (by simp[hi']);rw[add_plain]at t;rw[t];simp[nth,hi']
def KeysAre(w:World)(b n:Nat)(p:Int→Bool):Prop:=
 ∃D:DataW Unit,w.ownsMap Tryz.prog 2 (plainElem Tryz.prog 2) b n D∧∀x,Maps.has D (.int .i64 x)=p x
theorem MapIs.keys{w:World}{b n:Nat}{m:Int→Option Int}(h:MapIs w b n m):KeysAre w b n (fun x=>(m x).isSome):=by
 obtain⟨D,h1,_,h3⟩:=h;exact⟨D,h1,fun x=>(h3 x).1⟩
theorem sorted_any(b nn:Nat)(p:Int→Bool)(w:World)(hm:KeysAre w b nn p)(hnn:nn≤4194304):
 Calls Tryz.prog 86 #[.func (.func 113) #[] #[.pointer (some ⟨w.heap.size,0,none⟩)]] (w.alloc (.cells #[.map (some b)] 89)) fun e w'=>∃(a:Option Addr) (n cap:Nat) (h:Nat→Int),e= .returned (.slice a n cap)∧n≤nn∧
  IntsAt w' a n h∧(∀x,(∃i,i<n∧h i=x)↔p x=true)∧(∀j,j<n→∀i,i<j→h i<h j)∧(∀i,i<n→(Lit.int .i64 (h i)).wf=true)∧(∀x,a=some x→w.heap.size≤x.block)∧Below w.heap.size w w':=by
 obtain⟨D,hown,hall⟩:=hm;have hbl:=hown.lt;have hsz:=hown.size_le;have hseq:SeqGives Fence.wide 2 Tryz.prog 113 #[.pointer (some ⟨w.heap.size,0,none⟩)] Go.encZ (fun ss=>ss.Perm (intKeys D)) (Maps.size D) (w.alloc (.cells #[.map (some b)] 89)):=
  AnyZI.keys_gives (ρ:=Tryz.keysA_ren) {Tryz.keysA with} Fence.wide _ trivial rfl (by omega) w.heap.size b nn D _ (by simp) (by simp) (by
   obtain⟨es,clock,hb,Ft,hs,hD⟩:=hown;exact⟨es,clock,(Below.heap_alloc _ _ b hbl).trans hb,Ft,hs,hD⟩)
 have cS:=AnyZI.sorted_in Tryz.sortedA Fence.wide 5 trivial trivial trivial trivial rfl (by omega) (Tryz.sortsA _) (enters_of Tryz.func112 (by kernel_rfl) rfl) 113 #[.pointer (some ⟨w.heap.size,0,none⟩)] trivial (enters_of Tryz.func113 (by kernel_rfl) rfl) _ _ (by unfold maxLen;omega) (by omega) _ hseq;change CallsIn _ _ Tryz.prog 86 _ _ _ at cS;refine((callsIn_wide (n:=5)).1 cS).mono ?_;rintro e w' ⟨v,ss,rfl,hp,hrow,_,hb⟩;obtain⟨hnd,hmem⟩:=mem_intKeys hown;have hq:(ss.mergeSort (fun x y=>decide (x≤y))).Perm (intKeys D):=(List.mergeSort_perm ss _).trans hp;obtain⟨hlen,a,c,rfl,hat,hnew⟩:=IntsAt.of_owns (B:=_) hrow;have hle:ss.length≤nn:=by
  have h1:=hp.length_eq;have h2:(intKeys D).length=Maps.size D:=by
   obtain⟨es,rfl,_⟩:=hown.keysOf;simp[intKeys,Maps.size]
  omega
 have tr:∀a b c:Int,decide (a≤b)=true→decide (b≤c)=true→decide (a≤c)=true:=fun a b c h1 h2=>by simp only[decide_eq_true_eq]at *;omega
 have tO:∀a b:Int,(decide (a≤b)||decide (b≤a))=true:=fun a b=>by simp only[Bool.or_eq_true,decide_eq_true_eq];omega
 have hsorted:=(List.pairwise_mergeSort (le:=fun x y=>decide (x≤y)) tr tO ss).imp (fun{a b} h=>by simpa using h:∀{a b:Int},_→a≤b);refine⟨a,ss.length,c,nth (ss.mergeSort (fun x y=>decide (x≤y))),rfl,hle,hat,fun x=>?_,?_,fun i hi=>?_,fun x e=>by have:=hnew x e;simp at this;omega,?_⟩
 ·rw[←hall x,←hmem x,←hq.mem_iff];constructor
  ·rintro⟨i,hi,rfl⟩;have hi':i<(ss.mergeSort (fun x y=>decide (x≤y))).length:=(by omega);simp only[nth,List.getD_eq_getElem?_getD,List.getElem?_eq_getElem hi',Option.getD_some];exact List.getElem_mem hi'
  ·intro hx;obtain⟨i,hi,rfl⟩:=List.mem_iff_getElem.1 hx;exact⟨i,by omega,by simp only[nth,List.getD_eq_getElem?_getD,List.getElem?_eq_getElem hi,Option.getD_some]⟩
 ·have:=rises_sorted hsorted (hq.nodup_iff.2 hnd);rw[hlen]at this;exact this
 ·have hi':i<(ss.mergeSort (fun x y=>decide (x≤y))).length:=by omega
  refine intKeys_wf hown Tryz.underlying2 _ (hq.mem_iff.1 ?_);simp only[nth,List.getD_eq_getElem?_getD,List.getElem?_eq_getElem hi',Option.getD_some];exact List.getElem_mem hi'
 ·exact((Below.refl _ w).alloc (Nat.le_refl _) _).trans (hb.mono (by simp))
theorem clone_any(b nn:Nat)(m:Int→Option Int)(w:World)(hm:MapIs w b nn m):
 Calls Tryz.prog 84 #[.map (some b)] w fun e w'=>e= .returned (.map (some w.heap.size))∧KeysAre w' w.heap.size nn (fun x=>(m x).isSome)∧Below w.heap.size w w':=by
 obtain⟨D,hown,hall⟩:=hm.keys;have hcon:=AnyW.maps_Clone_owns Tryz.cloneA 2 (plainElem Tryz.prog 2) b nn D w hown;change Calls Tryz.prog 84 _ _ _ at hcon;refine hcon.mono ?_;rintro e w' ⟨rfl,h1,_,hB⟩;exact⟨rfl,⟨D,h1,hall⟩,hB⟩
theorem has_merge{w w':World}{b n b' n':Nat}{D D':DataW Unit}(h:w.ownsMap Tryz.prog 2 (plainElem Tryz.prog 2) b n D)(h':w'.ownsMap Tryz.prog 2 (plainElem Tryz.prog 2) b' n' D')(k:Lit):
 Maps.has (Lib.mergeD D D') k=(Maps.has D k||Maps.has D' k):=by
 obtain⟨es,rfl,_,hk⟩:=h'.entries keyed2;exact has_foldPut k es D (h.tidy keyed2).isMap hk
theorem copy_any(bd bs nd ns:Nat)(p q:Int→Bool)(w:World)(hd:KeysAre w bd nd p)(hs:KeysAre w bs ns q)(hne:bd≠bs)(hroom:nd+ns≤4194304):
 Calls Tryz.prog 85 #[.map (some bd),.map (some bs)] w fun e w'=>e= .returned (.tuple #[])∧KeysAre w' bd (nd+ns) (fun x=>p x||q x)∧w.grownBy w' (some bd):=by
 obtain⟨D,hD,hp⟩:=hd;obtain⟨E,hE,hq⟩:=hs;have hsz:=hE.size_le;have hcon:=AnyX.maps_Copy Tryz.copyA keyed2 (plainElem Tryz.prog 2) bd bs nd ns D E w hD hE hne (by unfold maxLen;omega);change Calls Tryz.prog 85 _ _ _ at hcon;refine hcon.mono ?_;rintro e w' ⟨rfl,h1,_,hg⟩;exact⟨rfl,⟨_,h1.mono (by omega),fun x=>by rw[has_merge hD hE,hp,hq]⟩,hg⟩
theorem namedBy_any(b1:Int)(c1 n1:Nat)(m1:Int→Option Int)(b2:Int)(c2 n2:Nat)(m2:Int→Option Int)(w:World)(h1:MapIs w c1 n1 m1)(h2:MapIs w c2 n2 m2)(hn:n1+n2≤4194304):
 Calls Tryz.prog 52 #[.agg #[.int .i64 b1,.map (some c1)],.agg #[.int .i64 b2,.map (some c2)]] w fun e w'=>∃(a:Option Addr) (n cap:Nat) (h:Nat→Int),e= .returned (.slice a n cap)∧n≤n1+n2∧
  IntsAt w' a n h∧(∀x,(∃i,i<n∧h i=x)↔((m1 x).isSome||(m2 x).isSome)=true)∧(∀j,j<n→∀i,i<j→h i<h j)∧(∀i,i<n→(Lit.int .i64 (h i)).wf=true)∧Below w.heap.size w w':=by
 have hb0:=((Below.refl _ w).alloc (Nat.le_refl _) (.cells #[.int .i64 b1,.map (some c1)] 91)).alloc (by simp) (.cells #[.int .i64 b2,.map (some c2)] 91);have lt2:=h2.lt;have e1:=h1.below hb0;go_enter Tryz.func52,Tryz.ntmps52
 go_wp2_with fail
 refine(clone_any _ _ _ _ e1).mono ?_;rintro e w1 ⟨rfl,k1,hb1⟩;obtain⟨q1,_⟩:=bcell hb1;have z1:w.heap.size+1+1≤w1.heap.size:=by have:=hb1.size;simpa using this
 have B1:Below w.heap.size w w1:=hb0.trans (hb1.mono (by simp;omega));have e2:=(h2.below B1).keys;simp at k1;go_wp2_with fail
 refine(copy_any _ _ _ _ _ _ _ k1 e2 (by omega) hn).mono ?_;rintro e w2 ⟨rfl,k2,hg2⟩;have G2:Below (w.heap.size+1+1) w1 w2:=(Below.refl _ _).grown hg2 z1 (fun k e=>by cases e;exact Nat.le_refl _);have B2:Below w.heap.size w w2:=B1.trans (G2.mono (by omega));clear q1;go_wp2_with fail
 refine(keys_any _ _).mono ?_;rintro e w3 ⟨rfl,rfl⟩;go_wp2_with fail
 refine(sorted_any _ _ _ _ k2 hn).mono ?_;rintro e w4 ⟨a,n,cap,h,rfl,hle,hat,hmem,hris,hwf,_,hb4⟩;go_wp2;go_ret;exact⟨a,n,cap,h,rfl,hle,hat,hmem,hris,hwf,B2.trans (hb4.mono B2.size)⟩
end Go.Proofs.YtbacmamplkdgaaaGreatDoor
