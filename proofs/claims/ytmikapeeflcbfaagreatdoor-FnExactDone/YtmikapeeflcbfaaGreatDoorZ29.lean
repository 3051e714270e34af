import Derived.Test.YtmikapeeflcbfaaGreatDoorZ0
import Derived.Test.YtmikapeeflcbfaaGreatDoorZ26
import Derived.Test.YtmikapeeflcbfaaGreatDoorZ20
import Derived.Test.YtmikapeeflcbfaaGreatDoorZ28
import Derived.Test.YtmikapeeflcbfaaGreatDoorProg
import Derived.Shelf.SlSortCmp.WholeK
import Derived.Ground.SlsfProg
set_option maxRecDepth 100000
set_option maxHeartbeats 16000000
namespace Go.Proofs.YtmikapeeflcbfaaGreatDoor
open Go Go.RowKit Go.Deep Go.Maps Go.BigFrame Go.Shelf Go.Proofs.Tryz
theorem Cg.subO{w w':World}{B q co co':Nat}{vt:Value}{lt:List Ac}{l l':List Ab}(h:Cg w B vt (.slice (some ⟨q,0,none⟩) l.length co) lt l)(ho:AI w' B (.slice (some ⟨q,0,none⟩) l'.length co') l')(hg:w.grownBy w' (some q))(hp:∀x∈l',x∈l):Cg w' B vt (.slice (some ⟨q,0,none⟩) l'.length co') lt l'/\Cp w w':=by
 have hq:∃cur,w.heap[q]? =some (.cells cur 88 (0,0)):=by
  rcases h.o.2 with⟨hv,_⟩|⟨g,cap,cur,hv,_,hgg,_⟩
  ·cases hv
  ·cases hv;exact⟨cur,hgg⟩
 obtain⟨cq,hq⟩:=hq;have kk:Cp w w':=⟨hg.size,fun k cs t hk _ h1=>hg.block k (Array.getElem?_eq_some_iff.1 hk).1 (fun e=>by
  cases e;rw[hq]at hk;simp only[Option.some.injEq,Obj.cells.injEq,and_true]at hk;exact h1 hk.2.symm)⟩
 refine⟨⟨?_,ho,fun y hy=>(h.tn y hy).keeps kk.l,fun y hy=>(h.on y (hp y hy)).keeps kk.l,h.tc,fun y hy=>h.oc y (hp y hy)⟩,kk⟩;refine⟨h.t.1,?_⟩;rcases h.t.2 with hn|⟨g,cap,cur,hv,hbg,hgg,rest⟩
 ·exact .inl hn
 ·refine .inr ⟨g,cap,cur,hv,hbg,?_,rest⟩;refine(hg.block g (Array.getElem?_eq_some_iff.1 hgg).1 (fun e=>?_)).trans hgg;cases e;rw[hq]at hgg;simp at hgg
theorem Cg.setW{w:World}{B P i:Nat}{vt vo:Value}{lt:List Ac}{lo:List Ab}{cs:Array Value}(h:Cg w B vt vo lt lo)(hb:Ah w P (.cells cs 102))(u:Value):Cg (w.setCell ⟨P,i,none⟩ u) B vt vo lt lo:=by
 have k:=AF (i:=i) hb (by decide) u;exact⟨h.t.set hb (by decide) u,h.o.set hb (by decide) u,fun x hx=>(h.tn x hx).keeps k,fun x hx=>(h.on x hx).keeps k,h.tc,h.oc⟩
theorem Mp{L' L:List (List Nat)}(h:L'.Sublist L):L'.flatten.Sublist L.flatten:=by
 induction h with
 |slnil=>exact List.Sublist.refl _
 |cons a _ ih=>exact ih.trans (List.sublist_append_right _ _)
 |cons_cons a _ ih=>exact(List.Sublist.refl a).append ih
theorem Apart.subO{lt:List Ac}{l l':List Ab}(h:Apart lt l)(hs:l'.Sublist l):Apart lt l':=
 ⟨h.c.sublist ((List.Sublist.refl _).append (Mp (hs.map _))),h.i.sublist ((List.Sublist.refl _).append (Mp (hs.map _))),h.s.sublist (Mp (hs.map _))⟩
section
variable {E:Nat->Addr}{w:World}{B P:Nat}{s:Ak}{g ca q co:Nat}{lt:List Ac}{lo:List Ab}{t c C:Nat}{nb:Nat->Nat}{kv:Nat->Value}{K:Nat->List Int}{X:Ac}
theorem Env.nodes(v:Env E w B P s g ca q co lt lo t c C nb kv K X):Dj w C c lo.length (fun i=>(Aa lo i).id) q 0 nb kv (Bs (fun i=>(Aa lo i).id) (fun i=>(Aa lo i).up) lo.length):=
 ⟨v.n.map,v.n.blk,v.n.inj,fun i hi=>by have h:=v.n.own i hi;rw[v.kid i hi]at h;exact h,v.n.apart,v.n.low,v.n.lowc⟩
theorem Rh{lt:List Ac}{lo:List Ab}(ok:okL lt lo=true){u:Nat}(hu:u<lo.length):(Aa lo u).id=1↔u=0:=by
 have r:=(Gv ok).2.1;constructor
 ·intro h;by_cases e:u=0
  ·exact e
  ·have h':(Aa lo 0).id<(Aa lo u).id:=(BF.1 ok).rise 0 u (by omega) hu;omega
 ·intro e;subst e;exact r
theorem Ye(v:Env E w B P s g ca q co lt lo t c C nb kv K X)(hk:s.kind=11):
 Calls prog 112 #[.pointer (some ⟨P,0,none⟩)] w fun e w'=>∃r,e= .returned r/\Jc E B P s lt lo t X (.map (some c)) w w' ⟨#[]⟩ r:=by
 have VV:=hid v;have HK:=hid hk;obtain⟨⟨s0,s1,s2,s3,s4,s5,s6,s7,s8,s9⟩,_,_,c12,c13⟩:=Ah.work (show Ah w.drew P _ from v.h.wk);obtain⟨⟨k0,k1,k2,k3,k4,k5,k6,k7,k8,k9⟩,_,_,v12,v13⟩:=v.h.wk.work;have LK:=(v.n.below (Below.refl _ w).drew).map.look (bN (Gl v.so));have LK2:=v.n.map.look (bN (Gl v.so));have BX:Hid (∀W,Below w w W->Ah W P (.cells (Hg s g lt.length ca q lo.length co t (.map (some c))) 102)/\Dz W g (t*7) X/\(∀i,i<lo.length->W.cell? ⟨nb i,0,none⟩=some (.pointer (some ⟨q,i*10,none⟩))/\W.cell? ⟨nb i,1,none⟩=some (kv i))/\(∀i,i<lo.length->Ci W q (i*10) (Aa lo i))):=hid (fun W hW=>by
  have V:=VV.out.below hW;have C7:=(V.h.st.jJ V.ht).1;rw[<-V.hX]at C7;refine⟨V.h.wk,C7,fun i hi=>?_,fun i hi=>?_⟩
  ·have b:=V.n.blk i hi;rw[Nat.zero_add]at b;exact b.two
  ·have C0:=(V.h.st.jF hi (Cu V.ok)).1;rw[<-AM hi]at C0;exact C0)
 clear v hk;cases hf:Gw lo s.id with
 |none=>
  rw[show Bd (fun i=>(Aa lo i).id) lo.length s.id=none from hf]at LK LK2;simp only[Option.map_none]at LK LK2;have AN:Hid (FI X s lt lo t 4 ⟨#[]⟩ lt lo):=hid (.drop HK rfl rfl (.inl ⟨rfl,by unfold Hb;rw[hf],rfl⟩));clear hf;go_enter func112,ntmps112
  go_upto_region 1 with fail
  go_cut[3] from 5 (fun a wc=>a= .pointer none/\wc=w.drew)
  case first=>
   go_region_law fail
   all_goals(
    go_wp2_with fail
    go_meet;case rel=>exact⟨rfl,rfl⟩)
  case rest=>
   obtain⟨rfl,rfl⟩:=hcut;clear LK LK2 s0 s1 s2 s3 s4 s5 s6 s7 s8 s9 c12 c13 k0 k1 k2 k3 k4 k5 k6 k7 k8 k9 v12 v13;have A1:=hid (Below.refl w w).drew;have e9:=((VV.out.below A1).e 6 (by omega) (by omega)).1;have sz:=(VV.out.below A1).hB;go_wp2_with fail
   refine(Bi 290 (.pointer (some (E 6))) _).mono ?_;rintro e w9 ⟨rfl,rfl⟩;go_wp2;go_ret;have b3:=Ae A1 ((Below.refl _ _).alloc (Nat.le_refl _) (.cells #[.int .i64 4,.iface 290 (.pointer (some (E 6)))] 68));exact⟨_,rfl,.no (.of (VV.out.below b3).h.wk) (b3.mono VV.out.hB) (BJ _ E sz 4 (by decide) 6 (by decide) (by decide) (by decide) (by first|rfl|simp)) (by decide) (AN)⟩
 |some u=>
  rw[show Bd (fun i=>(Aa lo i).id) lo.length s.id=some u from hf]at LK LK2;simp only[Option.map_some]at LK LK2;have HF:=hid hf;have ul:u<lo.length:=(AE hf).1;clear hf;go_enter func112,ntmps112
  go_upto_region 1 with fail
  go_cut[3] from 5 (fun a wc=>a= .pointer (some ⟨nb u,0,none⟩)/\wc=w.drew)
  case first=>
   go_region_law fail
   all_goals(
    go_wp2_with fail
    go_meet;case rel=>exact⟨rfl,rfl⟩)
  case rest=>
  obtain⟨rfl,rfl⟩:=hcut;clear LK LK2 s0 s1 s2 s3 s4 s5 s6 s7 s8 s9 c12 c13 k0 k1 k2 k3 k4 k5 k6 k7 k8 k9 v12 v13;have A1:=hid (Below.refl w w).drew;have n0:=((BX _ A1).2.2.1 u ul).1;have o0:w.drew.cell? ⟨q,u*10,none⟩=some (.int .i64 (Aa lo u).id):=((BX _ A1).2.2.2 u ul).c0;by_cases h1:(Aa lo u).id=1
  ·have AN:Hid (FI X s lt lo t 4 ⟨#[]⟩ lt lo):=hid (.drop HK rfl rfl (.inl ⟨rfl,by unfold Hb;rw[HF.out,(Rh VV.out.ok ul).1 h1];rfl,rfl⟩));rw[h1]at o0;clear h1;have e9:=((VV.out.below A1).e 7 (by omega) (by omega)).1;have sz:=(VV.out.below A1).hB;go_wp2_with fail
   refine(Bi 290 (.pointer (some (E 7))) _).mono ?_;rintro e w9 ⟨rfl,rfl⟩;go_wp2;go_ret;have b3:=Ae A1 ((Below.refl _ _).alloc (Nat.le_refl _) (.cells #[.int .i64 4,.iface 290 (.pointer (some (E 7)))] 68));exact⟨_,rfl,.no (.of (VV.out.below b3).h.wk) (b3.mono VV.out.hB) (BJ _ E sz 4 (by decide) 7 (by decide) (by decide) (by decide) (by first|rfl|simp)) (by decide) (AN)⟩
  ·have z1:((Aa lo u).id==1)=false:=(by simpa using h1);have u0:u≠0:=fun e=>h1 ((Rh VV.out.ok ul).2 e);obtain⟨p,hp⟩:∃p,Gw lo (Aa lo u).up=some p:=Pv (k:=DW none 0 none 0 lt lo) VV.out.ok ul u0;have HP:=hid hp;have pl:p<lo.length:=(AE hp).1;have UW:(Lit.int .i64 (Aa lo u).up).wf=true:=by
    rw[<-(AE hp).2];exact Mo (Jp VV.out.ok _ (Fc pl))
   have LKP:Hid (∀W,Below w w W->_):=hid (fun W hW=>by
    have L:=(VV.out.below hW).n.map.look UW;rw[show Bd (fun i=>(Aa lo i).id) lo.length (Aa lo u).up=some p from hp]at L;exact L)
   clear h1 hp UW;go_upto_region 6 with fail
   clear n0 o0;have D0:=hid (A1.out.drew);have EC:Hid (∀args w,(callFunc 139 args).run prog w= .ok (.enter 139 args) w):=hid (enters_of func139 (by kernel_rfl) rfl);have EB:Hid (∀args w,(callFunc 127 args).run prog w= .ok (.enter 127 args) w):=hid (enters_of func127 (by kernel_rfl) rfl);have PS:=hid (Dm (VV.out.changes p pl _ D0));refine Am 27 (fun W=>Below w w W) (by kernel_rfl) ?_;have n1:Nv (.pointer (some ⟨P,0,none⟩)):=⟨⟩;refine tq 0 32 n1 D0 ?_;simp only[ap,List.set];refine tq 1 33 n1 D0 ?_;simp only[ap,List.set];refine tq 2 34 (.pointer (some ⟨P,12,none⟩)) D0 ?_;simp only[ap,List.set];have n9:Nv (.pointer (some ⟨g,t*7,none⟩)):=⟨⟩;refine tq 3 35 n9 D0 ?_ (hy:=fun W h=>by obtain⟨⟨k0,k1,k2,k3,k4,k5,k6,k7,k8,k9⟩,k10,k11,k12,k13⟩:=(BX W h).1.work;go_simp);simp only[ap,List.set];refine tq 4 36 n9 D0 ?_;simp only[ap,List.set];refine tq 5 37 (.agg #[X.id,X.b1,.slice X.c1.a X.c1.n X.c1.k,X.b2,.slice X.c2.a X.c2.n X.c2.k,.slice X.own.a X.own.n X.own.k,X.made]) D0 ?_ (hy:=fun W h=>by have C:=(BX W h).2.1;have y0:=C.c0;have y1:=C.c1;have y2:W.cell? ⟨g,t*7+2,none⟩=some (.slice X.c1.a X.c1.n X.c1.k):=C.c2;have y3:=C.c3;have y4:W.cell? ⟨g,t*7+4,none⟩=some (.slice X.c2.a X.c2.n X.c2.k):=C.c4;have y5:W.cell? ⟨g,t*7+5,none⟩=some (.slice X.own.a X.own.n X.own.k):=C.c5;have y6:=C.c6;go_simp);simp only[ap,List.set];refine tq 6 38 n1 D0 ?_;simp only[ap,List.set];refine tq 7 39 n1 D0 ?_;simp only[ap,List.set];refine tq 8 40 (.pointer (some ⟨P,13,none⟩)) D0 ?_;simp only[ap,List.set];refine tq 9 41 (.map (some c)) D0 ?_ (hy:=fun W h=>by obtain⟨⟨k0,k1,k2,k3,k4,k5,k6,k7,k8,k9⟩,k10,k11,k12,k13⟩:=(BX W h).1.work;go_simp);simp only[ap,List.set];have n2:Nv (.pointer (some ⟨nb u,0,none⟩)):=⟨⟩;refine tq 10 42 n2 D0 ?_;simp only[ap,List.set];refine tq 11 43 n2 D0 ?_;simp only[ap,List.set];refine tq 12 44 n2 D0 ?_;simp only[ap,List.set];have n6:Nv (.pointer (some ⟨q,u*10,none⟩)):=⟨⟩;refine tq 13 45 n6 D0 ?_ (hy:=fun W h=>by have y:=((BX W h).2.2.1 u ul).1;go_simp);simp only[ap,List.set];refine tq 14 46 n6 D0 ?_;simp only[ap,List.set];refine tq 15 47 (.pointer (some ⟨q,u*10+2,none⟩)) D0 ?_;simp only[ap,List.set];refine tq 16 48 (.int .i64 (Aa lo u).up) D0 ?_ (hy:=fun W h=>by have y:=((BX W h).2.2.2 u ul).c2;go_simp);simp only[ap,List.set];have n4:Nv (.pointer (some ⟨nb p,0,none⟩)):=⟨⟩;refine tq 17 49 n4 D0 ?_ (hy:=fun W h=>by have y:=LKP.out W h;go_simp);simp only[ap,List.set];refine tq 18 50 n4 D0 ?_;simp only[ap,List.set];refine tq 19 51 n4 D0 ?_;simp only[ap,List.set];have n8:Nv (.pointer (some ⟨q,p*10,none⟩)):=⟨⟩;refine tq 20 52 n8 D0 ?_ (hy:=fun W h=>by have y:=((BX W h).2.2.1 p pl).1;go_simp);simp only[ap,List.set];refine tq 21 53 n8 D0 ?_;simp only[ap,List.set];refine tq 22 54 (.pointer (some ⟨q,p*10+3,none⟩)) D0 ?_;simp only[ap,List.set];refine tq 23 55 (.agg #[.int .i64 (Aa lo p).b1,.slice (Aa lo p).c1.a (Aa lo p).c1.n (Aa lo p).c1.k]) D0 ?_ (hy:=fun W h=>by have C:=(BX W h).2.2.2 p pl;have y1:W.cell? ⟨q,p*10+3,none⟩=some (.int .i64 (Aa lo p).b1):=C.c3;have y2:W.cell? ⟨q,p*10+3+1,none⟩=some (.slice (Aa lo p).c1.a (Aa lo p).c1.n (Aa lo p).c1.k):=C.c4;go_simp);simp only[ap,List.set];refine Af (i:=24) (by kernel_rfl) rfl ?_;intro K hK;refine Bb (by rfl) 139 _ _ _ (by rfl) EC _ _ (by rfl) (by rfl) (some 56) (by rfl) _ PS ?_;rintro v w4 ⟨rfl,b4⟩;have V1:=hid (Ae D0 b4);refine hK _ _ (fun _=>V1) ?_;clear hK K b4 PS;simp only[ap,List.set];refine tq 25 57 (.bool (!Ap X (Aa lo p).b1 (Aa lo p).c1)) V1 ?_;simp only[ap,List.set];refine tq 26 31 (.bool (!Ap X (Aa lo p).b1 (Aa lo p).c1)) V1 ?_;simp only[ap,List.set];refine Aj (by kernel_rfl) ?_ _;cases hc:Ap X (Aa lo p).b1 (Aa lo p).c1 with
   |false=>
    have AN:Hid (FI X s lt lo t 4 ⟨#[]⟩ lt lo):=hid (.drop HK rfl rfl (.inl ⟨rfl,by unfold Hb;rw[HF.out];simp only;rw[HP.out];simp only;rw[hc];simp,rfl⟩));clear hc;have e9:=((VV.out.below V1).e 8 (by omega) (by omega)).1;have sz:=(VV.out.below V1).hB;go_wp2_with fail
    refine(Bi 290 (.pointer (some (E 8))) _).mono ?_;rintro e w9 ⟨rfl,rfl⟩;go_wp2;go_ret;have b3:=Ae V1 ((Below.refl _ _).alloc (Nat.le_refl _) (.cells #[.int .i64 4,.iface 290 (.pointer (some (E 8)))] 68));exact⟨_,rfl,.no (.of (VV.out.below b3).h.wk) (b3.mono VV.out.hB) (BJ _ E sz 4 (by decide) 8 (by decide) (by decide) (by decide) (by first|rfl|simp)) (by decide) (AN)⟩
   |true=>
    have DB:Hid (Hb X lo s.id=true):=hid (by unfold Hb;rw[HF.out];simp only;rw[HP.out];simp only;rw[hc];simp;omega);clear hc;go_upto_region 8 with fail
    have D2:=hid V1.out.drew;have PB:Hid (∀W,Below w w W->Calls prog 127 #[.map (some c),.int .i64 (Aa lo u).id] W fun e w'=>∃v,e= .returned v/\∃(a:Option Addr) (k:Nat),v= .slice a (Bv lo u).length k/\Ax w' W (.slice a (Bv lo u).length k) (Bv lo u)/\Below W W w'):=hid (fun W hW=>by
     have V:=VV.out.below hW;have ok:=V.ok;have ho:BQ lo.length (Aa lo)=true:=(Bl (k:=DW none 0 none 0 lt lo) ok).2.1;have on:=GM ok;refine(Po W C c lo.length (fun i=>(Aa lo i).id) (fun i=>(Aa lo i).up) q 0 nb kv V.nodes (Bt ho) (fun j hj=>by have:=Ea ho j hj;have:=(Cm ho).2.2;omega) (fun i hi=>Mo (Jp ok _ (Fc hi))) (by omega) u ul (IB (k:=DW none 0 none 0 lt lo) ok ul)).mono ?_;rintro e w' ⟨v,rfl,h1,h2⟩;obtain⟨a,k,rfl⟩:=Ax.form h1;exact⟨_,rfl,a,k,rfl,h1,h2⟩)
    go_cut[4] from 60 (fun x wc=>∃(vb:Nat) (a:Option Addr) (k:Nat),x= .pointer (some ⟨vb,0,none⟩)/\Ah wc vb (.cells #[.slice a (Bv lo u).length k] 76)/\Ax wc w (.slice a (Bv lo u).length k) (Bv lo u)/\Below w w wc/\w.heap.size<=vb)
    case first=>
     refine Am 13 (fun W=>Below w w W) (by kernel_rfl) ?_;have n10:Nv (.pointer (some ⟨P,0,none⟩)):=⟨⟩;refine tq 0 60 n10 D2 ?_;simp only[ap,List.set];refine tq 1 61 n10 D2 ?_;simp only[ap,List.set];refine tq 2 62 (.pointer (some ⟨P,13,none⟩)) D2 ?_;simp only[ap,List.set];refine tq 3 63 (.map (some c)) D2 ?_ (hy:=fun W h=>by obtain⟨⟨k0,k1,k2,k3,k4,k5,k6,k7,k8,k9⟩,k10,k11,k12,k13⟩:=(BX W h).1.work;go_simp);simp only[ap,List.set];have n3:Nv (.pointer (some ⟨nb u,0,none⟩)):=⟨⟩;refine tq 4 64 n3 D2 ?_;simp only[ap,List.set];refine tq 5 65 n3 D2 ?_;simp only[ap,List.set];refine tq 6 66 n3 D2 ?_;simp only[ap,List.set];have n7:Nv (.pointer (some ⟨q,u*10,none⟩)):=⟨⟩;refine tq 7 67 n7 D2 ?_ (hy:=fun W h=>by have y:=((BX W h).2.2.1 u ul).1;go_simp);simp only[ap,List.set];refine tq 8 68 n7 D2 ?_;simp only[ap,List.set];refine tq 9 69 n7 D2 ?_;simp only[ap,List.set];refine tq 10 70 (.int .i64 (Aa lo u).id) D2 ?_ (hy:=fun W h=>by have y:=((BX W h).2.2.2 u ul).c0;go_simp);simp only[ap,List.set];refine CI (i:=11) (j:=12) (by kernel_rfl) rfl rfl ?_ ?_
     ·intro K hK;refine Bb (by rfl) 127 _ _ _ (by rfl) EB _ _ (by rfl) (by rfl) (some 71) (by rfl) _ (PB _ D2) ?_;rintro v w5 ⟨a,k,rfl,o5,b5⟩;have V5:=hid (Ae D2 b5);have O5:=hid o5;refine hK _ _ (fun _=>V5) ?_;clear hK K o5 b5;simp only[ap,List.set];refine Af (i:=12) (by kernel_rfl) rfl ?_;intro K hK;go_simp;have V6:=hid (Ae V5 ((Below.refl _ w5).alloc (Nat.le_refl _) (.cells #[.slice none 0 0] 76)));refine hK _ _ (fun _=>V6) ?_;clear hK K;try simp only[ap,List.set]
      refine Af (i:=13) (by kernel_rfl) rfl ?_;intro K hK;go_simp;refine hK _ _ (fun h=>absurd h (by decide)) ?_;clear hK K;try simp only[Act.put]
      refine Aj (by kernel_rfl) ?_ _;go_wp2_with fail
      go_meet;case rel=>
       have b6:=(Below.refl _ w5).alloc (Nat.le_refl _) (.cells #[.slice a (Bv lo u).length k] 76);exact⟨w5,a,k,rfl,Ah.new w5 _,Ax.base (own_below O5 b6) D2.out.size,Ae V5 b6,V5.out.size⟩
     ·intro K hK;have n5:No (.cells #[.slice none 0 0] 76):=⟨⟩;have V5:=hid (D2.out.alloc D2.out.size n5);have ZV:Hid (Ah (w4.alloc n5).drew w4 n5):=hid (Ah.new w4 _);go_simp;refine hK _ _ (fun _=>V5) ?_;clear hK K;try simp only[ap,List.set]
      refine Af (i:=11) (by kernel_rfl) rfl ?_;intro K hK;refine Bb (by rfl) 127 _ _ _ (by rfl) EB _ _ (by rfl) (by rfl) (some 71) (by rfl) _ (PB _ V5) ?_;rintro v w6 ⟨a,k,rfl,o6,b6⟩;have V6:=hid (Ae V5 b6);have O6:=hid o6;have Z6:=hid (ZV.out.below b6);refine hK _ _ (fun _=>V6) ?_;clear hK K o6 b6;simp only[ap,List.set];have z0:w6.cell? ⟨w4,0,none⟩=some (.slice none 0 0):=(by have h:=Z6.out;unfold Ah at h;simp[World.cell?,h]);have zf:=Z6.out.jC;refine Af (i:=13) (by kernel_rfl) rfl ?_;intro K hK;go_simp;refine hK _ _ (fun h=>absurd h (by decide)) ?_;clear hK K;try simp only[Act.put]
      refine Aj (by kernel_rfl) ?_ _;go_wp2_with fail
      go_meet;case rel=>
       have gs:=Aq (w:=w6) (w1:=w6) (q:=w4.heap.size) ⟨rfl,rfl,rfl,Nat.le_refl _,fun _ _ _=>rfl⟩ 0 (.slice a (Bv lo u).length k);exact⟨w4,a,k,rfl,Z6.out.jB (i:=0) _,Ax.base (World.ownsRow.kept O6 gs (.inr (fun e=>absurd (World.ownsRow.lt O6 w4 e).1 (by simp)))) V5.out.size,V6.out.setCell (p:=⟨w4,0,none⟩) V1.out.size _,V1.out.size⟩
    case rest=>
     obtain⟨vb,a,k,rfl,BV,OG,hb,hvb⟩:=hcut;generalize wc=w6 at *;have BV':=hid BV;have OG':=hid OG;have A6:=hid hb;clear BV OG hb;have V6:=VV.out.below A6.out;have ql:q<w.heap.size:=(VV.out.h.st.jF ul (Cu VV.out.ok)).2;have vc:w6.cell? ⟨vb,0,none⟩=some (.slice a (Bv lo u).length k):=(by have h:=BV'.out;unfold Ah at h;simp[World.cell?,h]);have on:=GM VV.out.ok;have ogl:(Bv lo u).length<=maxLen:=Nat.le_trans (Da OG').1 (Da OG').2;have DF:=hid (Se B q co vb lo ⟨a,(Bv lo u).length,k,AL (Bv lo u)⟩ w6 V6.h.st.o (by omega) vc BV'.out.lt (by omega) (fun W hW=>(Ax.new (World.ownsRow.kept OG' hW (.inr (fun e=>by have h:=(World.ownsRow.lt OG' q e).1;omega))) ogl).1));have H6:=hid V6.h;obtain⟨⟨k0,k1,k2,k3,k4,k5,k6,k7,k8,k9⟩,k10,k11,k12,k13⟩:=V6.h.wk.work;clear V6 vc;go_wp2_with fail
     refine DF.out.mono ?_;rintro e w7 ⟨rfl,o7,g7⟩;obtain⟨K7,kk⟩:=H6.out.st.subO o7 g7 (fun x hx=>(List.mem_filter.1 hx).1);have BP:=H6.out.wk.grown g7 (fun e=>H6.out.setQ (Option.some.inj e));obtain⟨⟨j0,j1,j2,j3,j4,j5,j6,j7,j8,j9⟩,j10,j11,j12,j13⟩:=BP.work;have pf:=BP.jC;have AP7:=hid (H6.out.ap.subO (l':=FH ⟨a,(Bv lo u).length,k,AL (Bv lo u)⟩ lo) List.filter_sublist);have KF:=hid K7;have BP':=hid BP;have hBq:B<=q:=(World.ownsRow.lt H6.out.st.o q rfl).1;have B7:Hid (Below B w w7):=hid ((A6.out.mono VV.out.hB).trans (below_grown g7 (Nat.le_trans VV.out.hB A6.out.size) (fun j e=>by have:=Option.some.inj e;omega)));have lp:=H6.out.lp;clear K7 kk BP o7 g7 k0 k1 k2 k3 k4 k5 k6 k7 k8 k9 k10 k11 k12 k13;go_wp2;go_ret;refine⟨_,rfl,.yes (B7.out.setCell (p:=⟨P,11,none⟩) lp _) ⟨(KF.out.setW BP' _).f,AP7,BP'.out.jB (i:=11) _⟩ (.drop HK rfl rfl (.inr ⟨rfl,DB,u,HF,by omega,?_⟩))⟩;unfold DO FH;rw[List.take_of_length_le (Nat.le_refl _)]
end
def Tryz.sortFA_ren:Go.Shelf.Ren:=⟨fun|6=>135|15=>162|14=>161|28=>179|29=>180|20=>171|21=>172|22=>173|23=>174|24=>175|25=>176|26=>177|27=>178|46=>201|47=>202|48=>203|49=>204|50=>205|57=>219|n=>n,fun|22=>34|24=>88|25=>191|3=>3|39=>219|0=>0|53=>236|55=>238|4=>4|46=>229|45=>228|50=>233|5=>5|9=>9|66=>261|70=>265|76=>280|77=>281|n=>n,fun|n=>n⟩
theorem Tryz.sortFA:Go.Proofs.SlLaysF0.n6 prog Tryz.sortFA_ren:={
 mixed:=by kernel_rfl
 f6:=⟨Tryz.f135.name,by decide,func135.trans (congrArg some (by kernel_rfl))⟩
 f14:=⟨Tryz.f161.name,by decide,func161.trans (congrArg some (by kernel_rfl))⟩
 f15:=func162.trans (congrArg some (by kernel_rfl))
 f20:=⟨Tryz.f171.name,by decide,func171.trans (congrArg some (by kernel_rfl))⟩
 f21:=⟨Tryz.f172.name,by decide,func172.trans (congrArg some (by kernel_rfl))⟩
 f22:=⟨Tryz.f173.name,by decide,func173.trans (congrArg some (by kernel_rfl))⟩
 f23:=⟨Tryz.f174.name,by decide,func174.trans (congrArg some (by kernel_rfl))⟩
 f24:=⟨Tryz.f175.name,by decide,func175.trans (congrArg some (by kernel_rfl))⟩
 f25:=⟨Tryz.f176.name,by decide,func176.trans (congrArg some (by kernel_rfl))⟩
 f26:=⟨Tryz.f177.name,by decide,func177.trans (congrArg some (by kernel_rfl))⟩
 f27:=⟨Tryz.f178.name,by decide,func178.trans (congrArg some (by kernel_rfl))⟩
 f28:=func179.trans (congrArg some (by kernel_rfl))
 f29:=func180.trans (congrArg some (by kernel_rfl))
 f46:=⟨Tryz.f201.name,by decide,func201.trans (congrArg some (by kernel_rfl))⟩
 f47:=func202.trans (congrArg some (by kernel_rfl))
 f48:=func203.trans (congrArg some (by kernel_rfl))
 f49:=⟨Tryz.f204.name,by decide,func204.trans (congrArg some (by kernel_rfl))⟩
 f50:=⟨Tryz.f205.name,by decide,func205.trans (congrArg some (by kernel_rfl))⟩
 f57:=⟨Tryz.f219.name,by decide,func219.trans (congrArg some (by kernel_rfl))⟩
 t0:=underlying0
 a0:=isAgg0
 z0:=sizeOf0
 v0:=zeroValue0
 t3:=underlying3
 a3:=isAgg3
 z3:=sizeOf3
 v3:=zeroValue3
 t4:=underlying4
 a4:=isAgg4
 z4:=sizeOf4
 v4:=zeroValue4
 t5:=underlying5
 a5:=isAgg5
 z5:=sizeOf5
 v5:=zeroValue5
 t9:=underlying9
 a9:=isAgg9
 z9:=sizeOf9
 v9:=zeroValue9
 t22:=underlying34
 a22:=isAgg34
 z22:=sizeOf34
 v22:=zeroValue34
 t25:=underlying191
 a25:=isAgg191
 z25:=sizeOf191
 v25:=zeroValue191
 t39:=underlying219
 a39:=isAgg219
 z39:=sizeOf219
 v39:=zeroValue219
 t45:=underlying228
 a45:=isAgg228
 z45:=sizeOf228
 v45:=zeroValue228
 t46:=underlying229
 a46:=isAgg229
 z46:=sizeOf229
 v46:=zeroValue229
 t50:=underlying233
 a50:=isAgg233
 z50:=sizeOf233
 v50:=zeroValue233
 t53:=underlying236
 a53:=isAgg236
 z53:=sizeOf236
 v53:=zeroValue236
 t55:=underlying238
 a55:=isAgg238
 z55:=sizeOf238
 v55:=zeroValue238
 t66:=underlying261
 a66:=isAgg261
 z66:=sizeOf261
 v66:=zeroValue261
 t70:=underlying265
 a70:=isAgg265
 z70:=sizeOf265
 v70:=zeroValue265
 t76:=underlying280
 a76:=isAgg280
 z76:=sizeOf280
 v76:=zeroValue280
 t77:=underlying281
 a77:=isAgg281
 z77:=sizeOf281
 v77:=zeroValue281}
theorem My{b:Int}{c d:Al}(h:c.same d)(hl:AX b c.n c.f c.g=true):AX b d.n d.f d.g=true:=by
 obtain⟨h1,h2,h3⟩:=h;rw[h1,h2,h3];exact hl
theorem Sc{n:Nat}{T:Nat->Ac}(h:Bq n T=true):CM (fun i=>(T i).id) n:=Ka fun i i0 hi=>by
 have:=(CF h).2.2 i hi;unfold DK at this;simp only[Bool.and_eq_true,Bool.or_eq_true,decide_eq_true_eq,beq_iff_eq]at this;rcases this.2 with e|e
 ·omega
 ·exact e
theorem VF{X:Ac}(h:Mb X):1001<=Au X/\Au X<=9999:=by
 have:=h.id;have:=h.made;unfold Au;omega
theorem SQ{lt:List Ac}{t:Nat}(ht:t<lt.length):lt.set t lt[t]=lt:=Ek ht
theorem Yg{X:Ac}(h:Mb X)(hn:¬X.own.n=10){L:List Int}(e:L=Dh ((List.range X.own.n).map X.own.h) (Au X)):BK L.length (AL L)=true:=by
 obtain⟨h1,h2,h3⟩:=Gd.1 h.own;subst e;refine MC ?_ (Iy h2) (fun x hx=>?_)
 ·have:=JA ((List.range X.own.n).map X.own.h) (Au X);simp at this;omega
 ·rcases MR hx with hx|hx
  ·exact h3 x hx
  ·have:=VF h;omega
theorem Xw{h:Nat->Int}{c:Int}{n:Nat}{x:Int}(hx:x∈Cs h c n):x∈(List.range n).map h:=(List.mem_filter.1 hx).1
theorem Xa{n:Nat}{h:Nat->Int}{c:Int}(ho:BK n h=true):BK (Cs h c n).length (AL (Cs h c n))=true:=by
 obtain⟨h1,h2,h3⟩:=Gd.1 ho;refine MC ?_ (h2.filter _) (fun x hx=>h3 x (Xw hx));have:=KJ h c n;omega
theorem Rn{L:List Int}{h:Nat->Int}:∀{q:Nat}{x:Int},x∈Dk L h q->x∈L∨∃i,i<q/\x=h i
 |0,x,hx=> .inl hx
 |q+1,x,hx=>by
  rcases MR hx with hx|hx
  ·rcases Rn hx with hx|⟨i,hi,e⟩
   ·exact .inl hx
   ·exact .inr ⟨i,by omega,e⟩
  ·exact .inr ⟨q,by omega,hx⟩
theorem Mg{L:List Int}{h:Nat->Int}(hL:L.Pairwise (· <·)):∀q,(Dk L h q).Pairwise (· <·)
 |0=>hL
 |q+1=>Iy (Mg hL q)
theorem Rc:Bp ⟨#[]⟩ 40=true:=by decide
theorem VQ{X:Ac}{s:Ak}(sf:UJ s){d1 d2:Al}{ow:Av}(hk:s.kind=2∨s.kind=3∨s.kind=4∨s.kind=5)(e1:s.c1.same d1)(e2:if s.kind=5 then s.c2.same d2 else d2=Gu)(e3:if 0<s.cat then ow.n=1/\ow.h 0=s.cat else ow=Fj):Ml (newObj X s d1 d2 ow):=by
 have hw:BK ow.n ow.h=true:=by
  by_cases h:0<s.cat
  ·rw[if_pos h]at e3;have hc:=sf.cat;have e:(s.cat==0)=false:=(by simp only[beq_eq_false_iff_ne,ne_eq];omega);unfold Mr at hc;rw[e]at hc;simp only[Bool.false_eq_true,if_false,Bool.and_eq_true,DL]at hc;rw[e3.1];simp[BK,Dl,e3.2,Dv];omega
  ·rw[if_neg h]at e3;rw[e3];rfl
 have h2:AX (newObj X s d1 d2 ow).b2 d2.n d2.f d2.g=true:=by
  unfold newObj;by_cases h:s.kind=5
  ·rw[if_pos h]at e2;simp only[if_pos h];exact My e2 sf.l2
  ·rw[if_neg h]at e2;simp only[if_neg h];rw[e2];rfl
 refine⟨My e1 sf.l1,h2,hw,Rc,rfl,?_⟩;have ce:=Hm sf;have noCat:s.kind≠5->ow=Fj:=fun h=>by
  have:=ce.1 (by omega);rw[if_neg (by omega)]at e3;exact e3
 unfold newObj Ha;rcases hk with h|h|h|h
 ·have e4:=noCat (by omega);rw[if_neg (by omega)]at e2;subst e2;subst e4;simp[h,Dc,Gu,Fj]
 ·have e4:=noCat (by omega);rw[if_neg (by omega)]at e2;subst e2;subst e4;simp[h,Dc,Gu,Fj]
 ·have e4:=noCat (by omega);rw[if_neg (by omega)]at e2;subst e2;subst e4;simp[h,Dc,Gu,Fj]
 ·simp[h]
theorem WO{lt:List Ac}{lo:List Ab}(ok:okL lt lo=true){t:Nat}(ht:t<lt.length){s:Ak}(so:s.ok=true)(hk:s.kind=2∨s.kind=3∨s.kind=4∨s.kind=5){c:Int}{tx:ByteArray}{lt':List Ac}{lo':List Ab}(p:XD lt[t] s lt lo t c tx lt' lo'):okL lt' lo'=true:=by
 rcases p with⟨_,_,_,rfl,rfl⟩|⟨_,_,_,_,rfl,rfl⟩|⟨_,mb,m30,_,rfl,d1,d2,ow,e1,e2,e3,rfl⟩
 ·exact ok
 ·exact ok
 ·have X:=Fy ok _ (List.getElem_mem ht);have m1:=X.made;have i1:=X.id;have ok1:=It ok ht (x:=⟨lt[t].id,lt[t].b1,lt[t].c1,lt[t].b2,lt[t].c2,lt[t].own,lt[t].made+1⟩) ⟨X.id,X.l1,X.l2,X.own,by dsimp only;omega⟩ rfl (by dsimp only;omega);unfold Fl at mb;cases hu:Gw lo s.id with
  |none=>rw[hu]at mb;cases mb
  |some u=>
   rw[hu]at mb;simp only[Bool.and_eq_true,decide_eq_true_eq]at mb;have kk:=BF.1 ok;have k1:=BF.1 ok1;have nc:Au lt[t]=1000*lt[t].id+lt[t].made+1:=rfl;refine Yv ok1 (VQ (Gl so) hk e1 e2 e3) ?_ hu mb.1.1.1.1 (fun j hj=>?_) (by show 1<Au lt[t];omega)
   ·have et:As (lt.set t (⟨lt[t].id,lt[t].b1,lt[t].c1,lt[t].b2,lt[t].c2,lt[t].own,lt[t].made+1⟩:Ac)) t=⟨lt[t].id,lt[t].b1,lt[t].c1,lt[t].b2,lt[t].c2,lt[t].own,lt[t].made+1⟩:=by
     have:=Un (l:=lt) (t:=t) (j:=t) (x:=(⟨lt[t].id,lt[t].b1,lt[t].c1,lt[t].b2,lt[t].c2,lt[t].own,lt[t].made+1⟩:Ac)) (z:=Ac.z) ht;rw[if_pos rfl]at this;exact this
    refine Sw k1.thr (t:=t) (by simpa[DW]using ht) ?_ ?_ ?_
    ·show(As _ t).id=Au lt[t]/1000;rw[et];show lt[t].id=Au lt[t]/1000;omega
    ·show 1<=Au lt[t]%1000;omega
    ·show Au lt[t]%1000<=(As _ t).made;rw[et];show Au lt[t]%1000<=lt[t].made+1;omega
   ·intro e;have e':(Aa lo j).id=Au lt[t]:=e;by_cases h0:j=0
    ·subst h0;have:=(Gv ok).2.1;omega
    ·obtain⟨t',h1,h2,h3,h4⟩:=Ew kk.thr (kk.num j (by omega) hj);have g1:(As lt t').id=(Aa lo j).id/1000:=h2;have g2:(Aa lo j).id%1000<=(As lt t').made:=h4;have g3:(As lt t).id=lt[t].id:=(by rw[Ep ht]);have e3:t'=t:=(Sc kk.thr).inj h1 ht (by show(As lt t').id=(As lt t).id;rw[g1,g3,e'];omega);subst e3;rw[Ep ht,e']at g2;omega
theorem UF{o:Ab}(f:Ml o){d:ByteArray}(h1:o.kind=1)(hd:Bp d 40=true):Ml ⟨o.id,o.kind,o.up,o.b1,o.c1,d,o.jA,o.own,o.b2,o.c2⟩:=by
 refine⟨f.l1,f.l2,f.own,hd,f.jA,?_⟩;have:=f.kind;unfold Ha at this ⊢;simp only[h1,if_true]at this ⊢;exact this
theorem Ro{o:Ab}(f:Ml o){d:Ao}(h1:o.kind=2)(hd:DG d.n d.f=true):Ml ⟨o.id,o.kind,o.up,o.b1,o.c1,o.data,d,o.own,o.b2,o.c2⟩:=by
 refine⟨f.l1,f.l2,f.own,f.data,hd,?_⟩;have:=f.kind;unfold Ha at this ⊢;simp only[h1]at this ⊢;exact this
theorem IV{n:Nat}{f:Nat->ByteArray}:DG n f=true↔n<=8/\∀i,i<n->Bp (f i) 40=true:=by
 unfold DG;simp only[Bool.and_eq_true,decide_eq_true_eq,List.all_eq_true,List.mem_range]
theorem Yr{lt:List Ac}{lo:List Ab}(ok:okL lt lo=true){t:Nat}(ht:t<lt.length){s:Ak}(so:s.ok=true){c:Int}{tx:ByteArray}{lt':List Ac}{lo':List Ab}(p:FI lt[t] s lt lo t c tx lt' lo'):okL lt' lo'=true:=by
 have X:=Fy ok _ (List.getElem_mem ht);have sf:=Gl so;cases p with
 |k1 h x e1 e2 p=>
  subst e1 e2;rcases p with⟨_,_,rfl,_⟩|⟨_,hn,_,a,cc,rfl⟩
  ·rw[SQ ht];exact ok
  ·have:=X.made;exact It ok ht ⟨X.id,X.l1,X.l2,Yg X (fun e=>hn (.inr e)) rfl,by dsimp only;omega⟩ rfl (by dsimp only;omega)
 |k12 h x e1 e2 e3 p=>
  subst e1 e2;rcases p with⟨_,_,rfl⟩|⟨_,_,d,sd,rfl⟩
  ·rw[SQ ht];exact ok
  ·exact It ok ht ⟨X.id,My sd sf.l1,X.l2,X.own,X.made⟩ rfl (Int.le_refl _)
 |k14 h x e1 e2 e3 p=>
  subst e1 e2;rcases p with⟨_,_,rfl⟩|⟨_,_,a,cc,rfl⟩
  ·rw[SQ ht];exact ok
  ·exact It ok ht ⟨X.id,X.l1,X.l2,Xa X.own,X.made⟩ rfl (Int.le_refl _)
 |make h p=>exact WO ok ht so h p
 |drop h e1 e3 p=>
  subst e1;rcases p with⟨_,_,rfl⟩|⟨_,_,u,hu,u0,rfl⟩
  ·exact ok
  ·exact YO ok hu u0
 |k6 h p=>
  rcases p with⟨_,_,_,rfl,rfl⟩|⟨u,hu,⟨_,_,_,rfl,rfl⟩|⟨_,_,_,rfl,rfl⟩⟩
  ·exact ok
  ·exact ok
  ·obtain⟨_,ul,i1,k1,_⟩:=Dr hu;rw[AM ul];exact Jt ok ul (UF (DU ok _ (List.getElem_mem ul)) k1 sf.data) rfl rfl rfl
 |k7 h p=>
  rcases p with⟨_,_,_,rfl,rfl⟩|⟨u,hu,_,_,rfl,rfl⟩
  ·exact ok
  ·exact ok
 |k8 h p=>
  rcases p with⟨_,_,_,rfl,rfl⟩|⟨u,hu,⟨_,_,_,rfl,rfl⟩|⟨v,hv,⟨_,_,_,rfl,rfl⟩|⟨kv,_,_,_,rfl,rfl⟩⟩⟩
  ·exact ok
  ·exact ok
  ·exact ok
  ·obtain⟨_,ul,_⟩:=Dr hu;obtain⟨vl,_⟩:=Ge hv;rw[AM vl]at kv;rw[AM vl,AM ul];exact Jt ok vl (UF (DU ok _ (List.getElem_mem vl)) kv (DU ok _ (List.getElem_mem ul)).data) rfl rfl rfl
 |k9 h p=>
  rcases p with⟨_,_,_,rfl,rfl⟩|⟨u,hu,⟨_,_,_,rfl,rfl⟩|⟨_,_,_,_,rfl,rfl⟩|⟨_,n8,_,_,rfl,a,c',rfl⟩⟩
  ·exact ok
  ·exact ok
  ·exact ok
  ·obtain⟨_,ul,i1,k1,_⟩:=Dr hu;rw[AM ul]at n8 ⊢;have f:=DU ok _ (List.getElem_mem ul);have it:=IV.1 f.jA;refine Jt ok ul (Ro f k1 (IV.2 ⟨by dsimp only;omega,fun i hi=>?_⟩)) rfl rfl rfl;dsimp only;unfold CG;split
   ·rename_i h1;exact it.2 i h1
   ·exact sf.data
 |k10 h p=>
  rcases p with⟨_,_,_,rfl,rfl⟩|⟨u,hu,⟨_,_,_,rfl,rfl⟩|⟨_,_,_,_,rfl,rfl⟩|⟨_,n0,_,_,rfl,a,c',rfl⟩⟩
  ·exact ok
  ·exact ok
  ·exact ok
  ·obtain⟨_,ul,i1,k1,_⟩:=Dr hu;rw[AM ul]at n0 ⊢;have f:=DU ok _ (List.getElem_mem ul);have it:=IV.1 f.jA;refine Jt ok ul (Ro f k1 (IV.2 ⟨by dsimp only;omega,fun i hi=>?_⟩)) rfl rfl rfl;dsimp only at hi ⊢;exact it.2 (i+1) (by omega)
 |k13 h p=>
  rcases p with⟨_,_,_,rfl,rfl⟩|⟨u,hu,⟨_,_,_,rfl,rfl⟩|⟨_,_,_,_,rfl,rfl⟩|⟨_,nb,_,_,a,c',rfl,rfl⟩⟩
  ·exact ok
  ·exact ok
  ·exact ok
  ·obtain⟨_,ul,i1,k1,_⟩:=Dr hu;rw[AM ul]at nb ⊢;have f:=DU ok _ (List.getElem_mem ul);obtain⟨_,x2,x3⟩:=Gd.1 X.own;obtain⟨_,_,f3⟩:=Gd.1 f.own;refine It ok ht ⟨X.id,X.l1,X.l2,MC (by omega) (Mg x2 _) (fun x hx=>?_),X.made⟩ rfl (Int.le_refl _);rcases Rn hx with hx|⟨i,hi,rfl⟩
   ·exact x3 x hx
   ·exact f3 _ (List.mem_map.2 ⟨i,List.mem_range.2 hi,rfl⟩)
 |k15 h p=>
  rcases p with⟨_,_,_,rfl,rfl⟩|⟨u,hu,_,_,rfl,rfl⟩
  ·exact ok
  ·exact ok
theorem Xf{lt:List Ac}{lo:List Ab}(ok:okL lt lo=true){s:Ak}{c:Int}{tx:ByteArray}{lt':List Ac}{lo':List Ab}(p:Ij lt lo s c tx lt' lo'):okL lt' lo'=true:=by
 cases p with
 |form h hc ht e1 e2=>subst e1 e2;exact ok
 |thread h hn hc ht e1 e2=>subst e1 e2;exact ok
 |act h t ht hn p=>exact Yr ok ht h p
open Go.Sort
instance objInh:Inhabited Ab:=⟨Ab.z⟩
def Ru(x y:Int):Int:=if x<y then-1 else if y<x then 1 else 0
theorem Ix(x:Int)(w:World):Calls prog 163 #[.int .i64 x] w fun e w'=>e= .returned (.bool false)/\w'=w:=by
 go_enter func163,ntmps163
 go_wp2;go_ret;exact⟨by simp,rfl⟩
theorem QW(x y:Int)(w:World):Calls prog 137 #[.int .i64 x,.int .i64 y] w fun e w'=>e= .returned (.int .i64 (Ru x y))/\w'=w:=by
 unfold Ru;by_cases h1:x<y
 ·rw[if_pos h1];go_enter func137,ntmps137
  go_wp2_with fail
  refine(Ix x w).mono ?_;rintro e w1 ⟨rfl,rfl⟩;go_wp2_with fail
  refine(Ix y _).mono ?_;rintro e w1 ⟨rfl,rfl⟩;go_wp2;go_ret;exact⟨rfl,rfl⟩
 ·rw[if_neg h1];by_cases h2:y<x
  ·rw[if_pos h2];go_enter func137,ntmps137
   go_wp2_with fail
   refine(Ix x w).mono ?_;rintro e w1 ⟨rfl,rfl⟩;go_wp2_with fail
   refine(Ix y _).mono ?_;rintro e w1 ⟨rfl,rfl⟩;go_wp2;go_ret;exact⟨rfl,rfl⟩
  ·rw[if_neg h2];go_enter func137,ntmps137
   go_wp2_with fail
   refine(Ix x w).mono ?_;rintro e w1 ⟨rfl,rfl⟩;go_wp2_with fail
   refine(Ix y _).mono ?_;rintro e w1 ⟨rfl,rfl⟩;go_wp2;go_ret;exact⟨rfl,rfl⟩
theorem Xe(w:World)(A B:Obj):(w.alloc A).alloc B=grow (w.drewN 0) #[A,B]:=by
 have e:w.heap++#[A,B]=(w.heap.push A).push B:=by
  show w.heap++(#[].push A).push B=_;rw[Array.append_push,Array.append_push,Array.append_empty]
 show _={w.drewN 0 with heap:=w.heap++#[A,B]};rw[e];rfl
theorem XX(x y:Ab)(w:World):Calls prog 136 #[.agg x.cs.toArray,.agg y.cs.toArray] w fun e w'=>e= .returned (.int .i64 (Ru x.id y.id))/\∃q os',w'=grow (w.drewN q) os':=by
 unfold Ab.cs Al.val Av.val Ao.val;go_enter func136,ntmps136
 go_wp2_with fail
 refine(QW x.id y.id _).mono ?_;rintro e w1 ⟨rfl,rfl⟩;go_wp2;go_ret;refine⟨rfl,0,_,Xe _ _ _⟩
theorem UQ:∀(l:List Ab) (t:Nat),t<l.length*10->(Aw l)[t]? =some ((l[t/10]!).cs[t%10]!)
 |[],t,h=>by simp at h
 |x::r,t,h=>by
  have e:Aw (x::r)=x.cs++Aw r:=by simp[Aw]
  rw[e];by_cases h1:t<10
  ·rw[List.getElem?_append_left (by rw[Ab.jK];exact h1),Nat.div_eq_of_lt h1,Nat.mod_eq_of_lt h1];have h2:t<x.cs.length:=(by rw[Ab.jK];exact h1);simp[h2,getElem!_pos]
  ·rw[List.getElem?_append_right (by rw[Ab.jK];omega),Ab.jK,UQ r (t-10) (by simp at h;omega)];have h2:t/10=(t-10)/10+1:=(by omega);have h3:t%10=(t-10)%10:=(by omega);rw[h2,h3];simp
theorem Lg(l:List Ab):(flatK Ab.cs 10 l.toArray).toList=Aw l:=by
 refine List.ext_getElem? (fun t=>?_);by_cases h:t<l.length*10
 ·rw[UQ l t h];have hs:t<(flatK Ab.cs 10 l.toArray).size:=by simp;exact h
  rw[Array.getElem?_toList,Array.getElem?_eq_getElem hs];have:=get_flatK Ab.cs 10 l.toArray t (by simpa using h);rw[getElem!_pos _ t hs]at this;rw[this];simp
 ·rw[List.getElem?_eq_none (by simp;omega),List.getElem?_eq_none (by rw[FM];omega)]
theorem av:SWO (ltOf fun x y:Ab=>Ru x.id y.id):=by
 have e:∀x y:Ab,ltOf (fun x y:Ab=>Ru x.id y.id) x y=decide (x.id<y.id):=fun x y=>by
  unfold ltOf Ru;dsimp only;by_cases h:x.id<y.id
  ·simp[h]
  ·by_cases h2:y.id<x.id<;>simp[h,h2]
 refine⟨fun x=>by rw[e];simp,fun x y z h1 h2=>?_,fun x y z h1 h2=>?_⟩
 ·rw[e]at *;simp at *;omega
 ·rw[e]at *;simp at *;omega
theorem Yq(cur:Array Value)(F:Array Value)(h:F.size<=cur.size):(putCells id 0 F cur).toList.take F.size=F.toList:=by
 apply List.ext_getElem?;intro j;by_cases hj:j<F.size
 ·rw[List.getElem?_take_of_lt hj,Array.getElem?_toList];simp[putCells,hj,show j<cur.size by omega]
 ·rw[List.getElem?_take_eq_none (by omega),List.getElem?_eq_none (by simp;omega)]
theorem aj:∀(x:Ab),∀v∈x.cs,v.oneCell'=true:=fun x v hv=>Ln (l:=[x]) v (by simp[Aw];exact hv)
theorem Wr(B q co:Nat)(l:List Ab)(w:World)(h:AI w B (.slice (some ⟨q,0,none⟩) l.length co) l)(hn:l.length<=1048576)(h0:0<l.length):
 Calls prog 135 #[.slice (some ⟨q,0,none⟩) l.length co,.func (.func 136) #[] #[]] w fun e w'=>e= .returned (.tuple #[])/\∃l',l'.Perm l/\l'.Pairwise (fun a b=>¬b.id<a.id)/\AI w' B (.slice (some ⟨q,0,none⟩) l'.length co) l'/\w.grownBy w' (some q):=by
 have hc:=h;rcases hc.2 with⟨hv,_⟩|⟨g',cap,cur,hv,hB,hgg,h1,h2,h3,h4⟩
 ·cases hv
 cases hv;have HK:HoldsK Ab.cs 10 w q 0 l.toArray:=fun j hj=>by
  have hj':j<l.length*10:=by simpa using hj
  have hcur:j<cur.size:=by rw[h3];omega
  have e1:cur.toList[j]? =(Aw l)[j]?:=by rw[<-h4,List.getElem?_take_of_lt hj']
  rw[<-Lg,Array.getElem?_toList,Array.getElem?_toList,Array.getElem?_eq_getElem hj]at e1;refine⟨?_,by simp[World.frozen?,hgg]⟩;rw[Nat.zero_add];simp only[World.cell?,hgg];rw[getElem!_pos (flatK Ab.cs 10 l.toArray) j hj];simpa using e1
 have ql:q<w.heap.size:=(World.ownsRow.lt h q rfl).2;have S:=AnyQ.slices_SortFunc Tryz.sortFA 10 isAgg88 sizeOf88 Ab.cs Ab.jK aj (fun x y:Ab=>Ru x.id y.id) av 136 #[] q 0 co l.toArray w (enters_of func136 (by kernel_rfl) rfl) (fun m os dk _ x y=>XX x y _) HK ql (by simp;omega);have S':Calls prog 135 #[.slice (some ⟨q,0,none⟩) l.toArray.size co,.func (.func 136) #[] #[]] w _:=S;rw[show l.toArray.size=l.length from by simp]at S';refine S'.mono ?_;rintro e w' ⟨rfl,d',n,os,hp,hs,rfl⟩;obtain⟨hsz,_,hperm⟩:=hp;have hsz':d'.size=l.length:=by simpa using hsz
 have pm:d'.toList.Perm l:=by
  have e1:(d'.extract 0 l.length).toList=d'.toList:=by rw[<-hsz'];simp
  have e2:(l.toArray.extract 0 l.length).toList=l:=by simp
  rw[e1,e2]at hperm;exact hperm
 have ln:d'.toList.length=l.length:=by simpa using hsz'
 have hk:(sortWorldK Ab.cs 10 w q 0 n d' os).heap[q]? =some (.cells (putCells id 0 (flatK Ab.cs 10 d') cur) 88 (0,0)):=by
  unfold sortWorldK grow putRowK putRow mapBlock Sort.ahead;rw[Array.getElem?_append_left (by simpa using ql)];simp[Array.getElem?_modify,hgg,onCells]
 have fs:(flatK Ab.cs 10 d').size<=cur.size:=by rw[size_flatK,hsz',h3];exact Nat.mul_le_mul_right _ h1
 refine⟨rfl,d'.toList,pm,?_,?_,?_⟩
 ·rw[List.pairwise_iff_getElem];intro i j hi hj hij;have:=hs i j (Nat.zero_le _) hij (by simpa using(by omega:j<l.length));have hi':i<d'.size:=by omega
  have hj':j<d'.size:=by omega
  rw[getElem!_pos d' j hj',getElem!_pos d' i hi']at this;unfold ltOf Ru at this;simp only[decide_eq_false_iff_not]at this;intro hlt;have hlt':d'[j].id<d'[i].id:=by simpa using hlt
  rw[if_pos hlt']at this;omega
 ·refine⟨by rw[FM],.inr ⟨q,co,_,rfl,hB,hk,by rw[ln];exact h1,h2,by simp[putCells,h3],?_⟩⟩;have:=Yq cur (flatK Ab.cs 10 d') fs;rw[size_flatK,show d'.size=d'.toList.length from by simp]at this;rw[this];have:=Lg d'.toList;simpa using this
 ·refine⟨rfl,rfl,rfl,by simp[sortWorldK,grow,putRowK,putRow,mapBlock,Sort.ahead],fun k hk' hne=>?_⟩;have:q≠k:=fun e=>hne (by rw[e]);unfold sortWorldK grow putRowK putRow mapBlock Sort.ahead;rw[Array.getElem?_append_left (by simpa using hk')];simp[Array.getElem?_modify,this]
end Go.Proofs.YtmikapeeflcbfaaGreatDoor
