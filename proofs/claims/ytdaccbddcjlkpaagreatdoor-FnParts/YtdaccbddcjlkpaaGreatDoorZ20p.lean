import Derived.Test.YtdaccbddcjlkpaaGreatDoorZ19p
set_option maxRecDepth 100000
set_option maxHeartbeats 16000000
namespace Go.Proofs.YtdaccbddcjlkpaaGreatDoor
open Go Go.RowKit Go.Deep Go.Proofs.Tryz
open Go.Value renaming pointer→pT,bool→qU,int→iT
open Go.IntKind renaming i64→qH
open _root_.List renaming set→qF
open Go.RowKit renaming Below→qN
section
variable {P:Program}{ops:Array Oper}{Q:Exit->Act->World->Prop}{a:Act}{w:World}
def BI.tk(i d:Nat){o:Oper}(v:Value)(h:BI P ops Q (i+1) (a.put (some d) v) w)(ho:ops[i]? =some o:=by rfl)(hd:o.dst=some d:=by rfl)
 (hw:Region.wanted o (yielded ops a.tmps)=true:=by kernel_rfl)(hv:(execOp a.eval o).run P w= .ok (.value v) w:=by go_simp):BI P ops Q i a w:=BI.take v ho hd hw hv h
def Rv:List Nat->List Value->Act->Act
 |d::ds,x::xs,a=>Rv ds xs (a.put (some d) x)
 |_,_,a=>a
def BI.opt(ds:List Nat)(R:List Value->World->Prop)(j:Nat){i:Nat}(h1:∀xs w',R xs w'->BI P ops Q j (Rv ds xs a) w')
 (h2:(∀xs w',R xs w'->BI P ops Q j (Rv ds xs a) w')->BI P ops Q i a w):BI P ops Q i a w:=h2 h1
end
def YT:Prop:=∀(th kind id to' cat:Int) (d:ByteArray) (bl:Int) (al:Option Addr) (nl kl:Nat) (fl gl:Nat->Int) (bc:Int) (ac:Option Addr) (nc kc:Nat) (fc gc:Nat->Int) (w:World) (_:d.size<=maxLen) (_:nl<=maxLen) (_:nc<=maxLen) (_:Bd w al nl fl gl) (_:Bd w ac nc fc gc),
 Calls prog 116 #[.agg #[th,iT qH kind,iT qH id,iT qH to',cat,.string d,iT qH bl,.slice al nl kl,iT qH bc,.slice ac nc kc]] w fun e w'=>e= .returned (qU (Hi th kind id to' cat d bl nl fl gl bc nc fc gc))/\qN w w w'
def Si:YT:=by
 intro th kind id to' cat d bl al nl kl fl gl bc ac nc kc fc gc w hd hnl hnc hcl hcc;have n1:Na #[th,iT qH kind,iT qH id,iT qH to',cat,.string d,iT qH bl,.slice al nl kl,iT qH bc,.slice ac nc kc]:=⟨⟩;have L0:=Bg w (.cells n1 50);have A0:=Ag.new w (.cells n1 50);unfold Hi;have HU:=Vy kind;generalize dw kind=ok at *;generalize fo kind=ui at *;generalize fx kind=ut at *;generalize UG kind=uc at *;generalize QZ kind=ud at *;generalize Mz kind=ul at *;generalize Jt kind=ue at *;go_enter func116,ntmps116
 go_wp2_with fail
 refine(HU _).mono ?_;rintro e w1 ⟨rfl,hb1⟩;have n2:No (.cells #[qU ui,qU ut,qU uc,qU ud,qU ul,qU ue] 200):=⟨⟩;have K1:=(Below.refl _ w1).alloc nr n2;have A:=(A0.below hb1).below K1;have U:=Ag.new w1 n2;have L:qN w w (w1.alloc n2):=L0.trans ((hb1.mono sI).trans (K1.mono (by have:=hb1.size;simp at this;omega)));clear hb1 K1 A0 L0;obtain⟨c0,c1,c2,c3,c4,c5,c6,c7,c8,c9⟩:=A.jE;go_upto_region 2 with fail
 clear c0 c1 c2 c3 c4 c5 c6 c7 c8 c9;generalize w1.alloc n2=W1 at *;generalize w1.heap.size=PU at *;refine BI.region ?_;cases ok
 ·refine BI.falls 2 74 rfl kR (fun T hT=>?_);go_wp2;go_ret;exact⟨Ee hT (by simp[Fj]),L⟩
 by_cases s1:1<=th;rotate_left
 ·have t2:Ev th 1 9=false:=by simp[Ev,s1]
  refine BI.tk 0 11 (qU true) ?_;simp only[ap,qF];refine BI.tk 1 12 (qU true) ?_;simp only[ap,qF];refine BI.tk 2 13 (pT (w)) ?_;simp only[ap,qF];refine BI.tk 3 14 (iT qH th) ?_ (hv:=by obtain⟨c0,c1,c2,c3,c4,c5,c6,c7,c8,c9⟩:=A.jE;obtain⟨v0,v1,v2,v3,v4,v5⟩:=U.six;go_simp);simp only[ap,qF];refine BI.tk 4 15 (qU false) ?_;simp only[ap,qF];refine BI.falls 2 69 rfl kR (fun T hT=>?_);go_wp2;go_ret;exact⟨Ee hT (by simp[Fj,t2]),L⟩
 by_cases s2:th<=9;rotate_left
 ·have t2:Ev th 1 9=false:=by simp[Ev,s2]
  refine BI.tk 0 11 (qU true) ?_;simp only[ap,qF];refine BI.tk 1 12 (qU true) ?_;simp only[ap,qF];have n3:Nv (pT (w)):=⟨⟩;refine BI.tk 2 13 n3 ?_;simp only[ap,qF];refine BI.tk 3 14 (iT qH th) ?_ (hv:=by obtain⟨c0,c1,c2,c3,c4,c5,c6,c7,c8,c9⟩:=A.jE;obtain⟨v0,v1,v2,v3,v4,v5⟩:=U.six;go_simp);simp only[ap,qF];refine BI.tk 4 15 (qU true) ?_;simp only[ap,qF];refine BI.tk 5 16 (qU true) ?_;simp only[ap,qF];refine BI.tk 6 17 (qU true) ?_;simp only[ap,qF];refine BI.tk 7 18 n3 ?_;simp only[ap,qF];refine BI.tk 8 19 (iT qH th) ?_ (hv:=by obtain⟨c0,c1,c2,c3,c4,c5,c6,c7,c8,c9⟩:=A.jE;obtain⟨v0,v1,v2,v3,v4,v5⟩:=U.six;go_simp);simp only[ap,qF];refine BI.tk 9 20 (qU false) ?_;simp only[ap,qF];refine BI.falls 2 64 rfl kR (fun T hT=>?_);go_wp2;go_ret;exact⟨Ee hT (by simp[Fj,t2]),L⟩
 have t2:Ev th 1 9=true:=CY.2 ⟨s1,s2⟩;refine BI.tk 0 11 (qU true) ?_;simp only[ap,qF];refine BI.tk 1 12 (qU true) ?_;simp only[ap,qF];have n4:Nv (pT (w)):=⟨⟩;refine BI.tk 2 13 n4 ?_;simp only[ap,qF];refine BI.tk 3 14 (iT qH th) ?_ (hv:=by obtain⟨c0,c1,c2,c3,c4,c5,c6,c7,c8,c9⟩:=A.jE;obtain⟨v0,v1,v2,v3,v4,v5⟩:=U.six;go_simp);simp only[ap,qF];refine BI.tk 4 15 (qU true) ?_;simp only[ap,qF];refine BI.tk 5 16 (qU true) ?_;simp only[ap,qF];refine BI.tk 6 17 (qU true) ?_;simp only[ap,qF];refine BI.tk 7 18 n4 ?_;simp only[ap,qF];refine BI.tk 8 19 (iT qH th) ?_ (hv:=by obtain⟨c0,c1,c2,c3,c4,c5,c6,c7,c8,c9⟩:=A.jE;obtain⟨v0,v1,v2,v3,v4,v5⟩:=U.six;go_simp);simp only[ap,qF];refine BI.tk 9 20 (qU true) ?_;simp only[ap,qF];refine BI.tk 10 21 (qU true) ?_;simp only[ap,qF];refine BI.tk 11 22 (qU true) ?_;simp only[ap,qF];have n5:Nv (pT (some ⟨w,6,none⟩)):=⟨⟩;refine BI.tk 12 23 n5 ?_;simp only[ap,qF];have n8:Nv (.agg #[iT qH bl,.slice al nl kl]):=⟨⟩;refine BI.tk 13 24 n8 ?_ (hv:=by obtain⟨c0,c1,c2,c3,c4,c5,c6,c7,c8,c9⟩:=A.jE;obtain⟨v0,v1,v2,v3,v4,v5⟩:=U.six;go_simp);simp only[ap,qF];refine BI.step rfl (fun K1 hK1=>?_);go_simp;refine(Eo _ _ _ _ fl gl _ hnl (hcl.below L)).mono ?_;rintro e W2 ⟨rfl,hb⟩;replace A:=A.below hb;replace U:=U.below hb;replace L:qN w w W2:=L.trans (hb.mono L.size);clear hb;cases t3:Bb bl nl fl gl
 ·refine hK1 _ _ ?_;clear hK1 K1;refine BI.falls 2 59 rfl kR (fun T hT=>?_);go_wp2;go_ret;exact⟨Ee hT (by simp[Fj,t2,t3]),L⟩
 refine hK1 _ _ ?_;clear hK1 K1;try simp only[ap,qF]
 refine BI.tk 15 26 (qU true) ?_;simp only[ap,qF];refine BI.tk 16 27 (qU true) ?_;simp only[ap,qF];refine BI.tk 17 28 (pT (some ⟨PU,4,none⟩)) ?_;simp only[ap,qF];refine BI.tk 18 29 (qU ul) ?_ (hv:=by obtain⟨c0,c1,c2,c3,c4,c5,c6,c7,c8,c9⟩:=A.jE;obtain⟨v0,v1,v2,v3,v4,v5⟩:=U.six;go_simp);simp only[ap,qF];refine BI.tk 19 30 (qU ul) ?_;simp only[ap,qF];refine BI.opt [31,32,33,34] (fun xs W=>(∃x y z,xs=[x,y,z,qU (ul||DV bl nl)])/\Ag W w (.cells n1 50)/\Ag W PU n2/\qN w w W) 24 ?_ (fun REST=>?_);rotate_left
 ·cases ul
  ·skip;refine BI.tk 20 31 n5 ?_;simp only[ap,qF];refine BI.tk 21 32 n8 ?_ (hv:=by obtain⟨c0,c1,c2,c3,c4,c5,c6,c7,c8,c9⟩:=A.jE;obtain⟨v0,v1,v2,v3,v4,v5⟩:=U.six;go_simp);simp only[ap,qF];refine BI.step rfl (fun K1 hK1=>?_);go_simp;refine(Kv _ _ _ _ _ hnl).mono ?_;rintro e W2 ⟨rfl,hb⟩;replace A:=A.below hb;replace U:=U.below hb;replace L:qN w w W2:=L.trans (hb.mono L.size);clear hb;refine hK1 _ _ ?_;clear hK1 K1;try simp only[ap,qF]
   refine BI.tk 23 34 (qU (DV bl nl)) ?_;simp only[ap,qF];exact REST _ _ ⟨⟨_,_,_,rfl⟩,A,U,L⟩
  ·refine BI.pass (j:=23) 3 rfl kR ?_;refine BI.tk 23 34 (qU true) ?_;simp only[ap,qF];exact REST _ _ ⟨⟨undef,undef,undef,rfl⟩,A,U,L⟩
 clear A U L;rintro xs W ⟨⟨x,y,z,rfl⟩,A,U,L⟩;simp only[Rv,ap,qF];cases t4:(ul||DV bl nl)
 ·refine BI.falls 2 50 rfl kR (fun T hT=>?_);go_wp2;go_ret;exact⟨Ee hT (by simp[Fj,t2,t3,t4]),L⟩
 refine BI.tk 24 35 (qU true) ?_;simp only[ap,qF];refine BI.tk 25 36 (qU true) ?_;simp only[ap,qF];have n6:Nv (pT (some ⟨w,8,none⟩)):=⟨⟩;refine BI.tk 26 37 n6 ?_;simp only[ap,qF];have n9:Nv (.agg #[iT qH bc,.slice ac nc kc]):=⟨⟩;refine BI.tk 27 38 n9 ?_ (hv:=by obtain⟨c0,c1,c2,c3,c4,c5,c6,c7,c8,c9⟩:=A.jE;obtain⟨v0,v1,v2,v3,v4,v5⟩:=U.six;go_simp);simp only[ap,qF];refine BI.step rfl (fun K1 hK1=>?_);go_simp;refine(Eo _ _ _ _ fc gc _ hnc (hcc.below L)).mono ?_;rintro e W2 ⟨rfl,hb⟩;replace A:=A.below hb;replace U:=U.below hb;replace L:qN w w W2:=L.trans (hb.mono L.size);clear hb;cases t5:Bb bc nc fc gc
 ·refine hK1 _ _ ?_;clear hK1 K1;refine BI.falls 2 45 rfl kR (fun T hT=>?_);go_wp2;go_ret;exact⟨Ee hT (by simp[Fj,t2,t3,t4,t5]),L⟩
 refine hK1 _ _ ?_;clear hK1 K1;try simp only[ap,qF]
 refine BI.tk 29 40 (qU true) ?_;simp only[ap,qF];refine BI.tk 30 41 (qU true) ?_;simp only[ap,qF];refine BI.tk 31 42 (pT (some ⟨PU,5,none⟩)) ?_;simp only[ap,qF];refine BI.tk 32 43 (qU ue) ?_ (hv:=by obtain⟨c0,c1,c2,c3,c4,c5,c6,c7,c8,c9⟩:=A.jE;obtain⟨v0,v1,v2,v3,v4,v5⟩:=U.six;go_simp);simp only[ap,qF];refine BI.tk 33 44 (qU ue) ?_;simp only[ap,qF];refine BI.opt [45,46,47,48] (fun xs W=>(∃x y z,xs=[x,y,z,qU (ue||DV bc nc)])/\Ag W w (.cells n1 50)/\Ag W PU n2/\qN w w W) 38 ?_ (fun REST=>?_);rotate_left
 ·cases ue
  ·skip;refine BI.tk 34 45 n6 ?_;simp only[ap,qF];refine BI.tk 35 46 n9 ?_ (hv:=by obtain⟨c0,c1,c2,c3,c4,c5,c6,c7,c8,c9⟩:=A.jE;obtain⟨v0,v1,v2,v3,v4,v5⟩:=U.six;go_simp);simp only[ap,qF];refine BI.step rfl (fun K1 hK1=>?_);go_simp;refine(Kv _ _ _ _ _ hnc).mono ?_;rintro e W2 ⟨rfl,hb⟩;replace A:=A.below hb;replace U:=U.below hb;replace L:qN w w W2:=L.trans (hb.mono L.size);clear hb;refine hK1 _ _ ?_;clear hK1 K1;try simp only[ap,qF]
   refine BI.tk 37 48 (qU (DV bc nc)) ?_;simp only[ap,qF];exact REST _ _ ⟨⟨_,_,_,rfl⟩,A,U,L⟩
  ·refine BI.pass (j:=37) 3 rfl kR ?_;refine BI.tk 37 48 (qU true) ?_;simp only[ap,qF];exact REST _ _ ⟨⟨undef,undef,undef,rfl⟩,A,U,L⟩
 clear A U L;rintro xs W ⟨⟨x,y,z,rfl⟩,A,U,L⟩;simp only[Rv,ap,qF];cases t6:(ue||DV bc nc)
 ·refine BI.falls 2 36 rfl kR (fun T hT=>?_);go_wp2;go_ret;exact⟨Ee hT (by simp[Fj,t2,t3,t4,t5,t6]),L⟩
 refine BI.tk 38 49 (qU true) ?_;simp only[ap,qF];refine BI.tk 39 50 (qU true) ?_;simp only[ap,qF];have n7:Nv (pT (some ⟨w,5,none⟩)):=⟨⟩;refine BI.tk 40 51 n7 ?_;simp only[ap,qF];refine BI.tk 41 52 (.string d) ?_ (hv:=by obtain⟨c0,c1,c2,c3,c4,c5,c6,c7,c8,c9⟩:=A.jE;obtain⟨v0,v1,v2,v3,v4,v5⟩:=U.six;go_simp);simp only[ap,qF];refine BI.step rfl (fun K1 hK1=>?_);go_simp;refine(KG d _ hd).mono ?_;rintro e W2 ⟨rfl,hb⟩;replace A:=A.below hb;replace U:=U.below hb;replace L:qN w w W2:=L.trans (hb.mono L.size);clear hb;cases t7:By d 40
 ·refine hK1 _ _ ?_;clear hK1 K1;refine BI.falls 2 31 rfl kR (fun T hT=>?_);go_wp2;go_ret;exact⟨Ee hT (by simp[Fj,t2,t3,t4,t5,t6,t7]),L⟩
 refine hK1 _ _ ?_;clear hK1 K1;try simp only[ap,qF]
 refine BI.tk 43 54 (qU true) ?_;simp only[ap,qF];refine BI.tk 44 55 (qU true) ?_;simp only[ap,qF];refine BI.tk 45 56 (pT (some ⟨PU,3,none⟩)) ?_;simp only[ap,qF];refine BI.tk 46 57 (qU ud) ?_ (hv:=by obtain⟨c0,c1,c2,c3,c4,c5,c6,c7,c8,c9⟩:=A.jE;obtain⟨v0,v1,v2,v3,v4,v5⟩:=U.six;go_simp);simp only[ap,qF];refine BI.tk 47 58 (qU ud) ?_;simp only[ap,qF];refine BI.opt [59,60,61,62] (fun xs W=>(∃x y z,xs=[x,y,z,qU (ud||Le d)])/\Ag W w (.cells n1 50)/\Ag W PU n2/\qN w w W) 52 ?_ (fun REST=>?_);rotate_left
 ·cases ud
  ·skip;refine BI.tk 48 59 n7 ?_;simp only[ap,qF];refine BI.tk 49 60 (.string d) ?_ (hv:=by obtain⟨c0,c1,c2,c3,c4,c5,c6,c7,c8,c9⟩:=A.jE;obtain⟨v0,v1,v2,v3,v4,v5⟩:=U.six;go_simp);simp only[ap,qF];refine BI.tk 50 61 (qU (Le d)) ?_ (hv:=by unfold Le;go_simp);simp only[ap,qF];refine BI.tk 51 62 (qU (Le d)) ?_;simp only[ap,qF];exact REST _ _ ⟨⟨_,_,_,rfl⟩,A,U,L⟩
  ·refine BI.pass (j:=51) 3 rfl kR ?_;refine BI.tk 51 62 (qU true) ?_;simp only[ap,qF];exact REST _ _ ⟨⟨undef,undef,undef,rfl⟩,A,U,L⟩
 clear A U L;rintro xs W ⟨⟨x,y,z,rfl⟩,A,U,L⟩;simp only[Rv,ap,qF];cases t8:(ud||Le d)
 ·refine BI.falls 2 22 rfl kR (fun T hT=>?_);go_wp2;go_ret;exact⟨Ee hT (by simp[Fj,t2,t3,t4,t5,t6,t7,t8]),L⟩
 refine BI.tk 52 63 (qU true) ?_;simp only[ap,qF];refine BI.tk 53 64 (qU true) ?_;simp only[ap,qF];refine BI.tk 54 65 (pT (some ⟨w,2,none⟩)) ?_;simp only[ap,qF];refine BI.tk 55 66 (iT qH id) ?_ (hv:=by obtain⟨c0,c1,c2,c3,c4,c5,c6,c7,c8,c9⟩:=A.jE;obtain⟨v0,v1,v2,v3,v4,v5⟩:=U.six;go_simp);simp only[ap,qF];refine BI.tk 56 67 (pT PU) ?_;simp only[ap,qF];refine BI.tk 57 68 (qU ui) ?_ (hv:=by obtain⟨c0,c1,c2,c3,c4,c5,c6,c7,c8,c9⟩:=A.jE;obtain⟨v0,v1,v2,v3,v4,v5⟩:=U.six;go_simp);simp only[ap,qF];refine BI.step rfl (fun K1 hK1=>?_);go_simp;refine(Lq _ _ _).mono ?_;rintro e W2 ⟨rfl,hb⟩;subst hb;cases t9:NF id ui
 ·refine hK1 _ _ ?_;clear hK1 K1;refine BI.falls 2 15 rfl kR (fun T hT=>?_);go_wp2;go_ret;exact⟨Ee hT (by simp[Fj,t2,t3,t4,t5,t6,t7,t8,t9]),L⟩
 refine hK1 _ _ ?_;clear hK1 K1;try simp only[ap,qF]
 refine BI.tk 59 70 (qU true) ?_;simp only[ap,qF];refine BI.tk 60 71 (qU true) ?_;simp only[ap,qF];refine BI.tk 61 72 (pT (some ⟨w,3,none⟩)) ?_;simp only[ap,qF];refine BI.tk 62 73 (iT qH to') ?_ (hv:=by obtain⟨c0,c1,c2,c3,c4,c5,c6,c7,c8,c9⟩:=A.jE;obtain⟨v0,v1,v2,v3,v4,v5⟩:=U.six;go_simp);simp only[ap,qF];refine BI.tk 63 74 (pT (some ⟨PU,1,none⟩)) ?_;simp only[ap,qF];refine BI.tk 64 75 (qU ut) ?_ (hv:=by obtain⟨c0,c1,c2,c3,c4,c5,c6,c7,c8,c9⟩:=A.jE;obtain⟨v0,v1,v2,v3,v4,v5⟩:=U.six;go_simp);simp only[ap,qF];refine BI.step rfl (fun K1 hK1=>?_);go_simp;refine(Lq _ _ _).mono ?_;rintro e W2 ⟨rfl,hb⟩;subst hb;cases t10:NF to' ut
 ·refine hK1 _ _ ?_;clear hK1 K1;refine BI.falls 2 8 rfl kR (fun T hT=>?_);go_wp2;go_ret;exact⟨Ee hT (by simp[Fj,t2,t3,t4,t5,t6,t7,t8,t9,t10]),L⟩
 refine hK1 _ _ ?_;clear hK1 K1;try simp only[ap,qF]
 refine BI.tk 66 77 (qU true) ?_;simp only[ap,qF];refine BI.tk 67 78 (qU true) ?_;simp only[ap,qF];refine BI.tk 68 79 (.agg n1) ?_ (hv:=by obtain⟨c0,c1,c2,c3,c4,c5,c6,c7,c8,c9⟩:=A.jE;obtain⟨v0,v1,v2,v3,v4,v5⟩:=U.six;go_simp);simp only[ap,qF];refine BI.tk 69 80 (pT (some ⟨PU,2,none⟩)) ?_;simp only[ap,qF];refine BI.tk 70 81 (qU uc) ?_ (hv:=by obtain⟨c0,c1,c2,c3,c4,c5,c6,c7,c8,c9⟩:=A.jE;obtain⟨v0,v1,v2,v3,v4,v5⟩:=U.six;go_simp);simp only[ap,qF];refine BI.step rfl (fun K1 hK1=>?_);go_simp;refine(XE _ _ _ _ _ _ _ _ _ _ _ _ _ _ _ _).mono ?_;rintro e W2 ⟨rfl,hb⟩;replace A:=A.below hb;replace U:=U.below hb;replace L:qN w w W2:=L.trans (hb.mono L.size);clear hb;refine hK1 _ _ ?_;clear hK1 K1;try simp only[ap,qF]
 refine BI.tk 72 83 (qU (Pt kind cat uc)) ?_;simp only[ap,qF];refine BI.tk 73 2 (qU (Pt kind cat uc)) ?_;simp only[ap,qF];refine BI.done (Nat.le_of_eq qK) ?_;go_wp2;go_ret;exact⟨Ah (by simp[Fj,t2,t3,t4,t5,t6,t7,t8,t9,t10]),L⟩
open Go.Maps
def Zl(t:Ae)(x:Int)(P:Nat)(w:World)(hP:w.cell? ⟨P,0,none⟩=some (.int .i64 x))(hl:P<w.heap.size):
 Calls prog 142 #[.agg t,.pointer P] w fun e w'=>e= .returned (.bool (t.id==x))/\Below w w w':=by
 have b0:=Bg w (.cells t 53);have h1:=(b0.cell (p:=⟨P,0,none⟩) hl).trans hP;go_enter func142,ntmps142
 go_wp2;go_ret;exact⟨rfl,b0⟩
def Qo(a:Option Addr)(n cap:Nat)(T:Nat->Ae)(x:Int)(P:Nat)(w:World)(hn:n<=maxLen)(hT:Jb w a n T)(hP:w.cell? ⟨P,0,none⟩=some (.int .i64 x))(hl:P<w.heap.size):
 Calls prog 141 #[.slice a n cap,.func (.func 142) #[] #[.pointer P]] w fun e w'=>e= .returned (.int .i64 (GX (Bq (fun i=>(T i).id) n x)))/\Below w w w':=by
 unfold maxLen at hn;have HT:=qC hT;clear hT;go_enter func141,ntmps141
 go_wp2;go_loopw [8] (fun i wr=>∃q:Nat,q<=n/\i= .int .i64 q/\Hid (∀j,j<q->(T j).id≠x)/\Below w w wr) (fun i _=>n-(intOf i).toNat)
 case atStart=>exact⟨0,Nat.zero_le _,rfl,qC (fun j hj=>by omega),Below.refl _ _⟩
 case round=>
  obtain⟨q,hq,rfl,HA,hB⟩:=hrel;by_cases hlt:q<n
  ·obtain⟨b,off,rfl,_,hcc⟩:=HT.out.below hB qQ;obtain⟨⟨q0,q1,q2,q3,q4,q5,q6⟩,ht⟩:=hcc q hlt;simp only[As.val,AJ.val]at q2 q4 q5;have i1:(q:Int)<(n:Int):=qQ;have hp:=(hB.cell (p:=⟨P,0,none⟩) hl).trans hP;have C1:=qC (Zl (T q) x P wr hp (Nat.lt_of_lt_of_le hl hB.size));clear hcc ht;by_cases e:(T q).id=x
   ·have HF:=qC (JK (ids:=fun i=>(T i).id) hlt e HA);have e':((T q).id==x)=true:=(by simpa using e);rw[e']at C1;clear e HA e';go_wp2_with(go_at_call 142;refine C1.out.mono ?_;rintro e w1 ⟨rfl,hb1⟩;have B1:=Af hB hb1)
    go_ret;exact⟨Fw (by rw[HF.out];rfl),B1⟩
   ·have e':((T q).id==x)=false:=(by simpa using e);have HA2:Hid (∀j,j<q+1->(T j).id≠x):=qC (fun j hj=>by
     by_cases ej:j=q
     ·subst ej;exact e
     ·exact HA.out j qQ)
    rw[e']at C1;clear e HA e';go_wp2_with(go_at_call 142;refine C1.out.mono ?_;rintro e w1 ⟨rfl,hb1⟩;have B1:=Af hB hb1)
    exact⟨⟨q+1,by omega,by go_num,HA2,B1⟩,by simp[intOf];omega⟩
  ·have i1:¬(q:Int)<(n:Int):=qQ;have HF:=qC (LP (ids:=fun i=>(T i).id) (n:=n) (x:=x) (fun j hj=>HA j qQ));clear HA;go_wp2;go_ret;exact⟨Fw (by rw[HF.out];rfl),hB⟩
def NJ(a:Option Addr)(n cap:Nat)(T:Nat->Ae)(x:Int)(w:World)(hn:n<=maxLen)(hT:Jb w a n T):
 Calls prog 117 #[.slice a n cap,.int .i64 x] w fun e w'=>e= .returned (.int .i64 (GX (Bq (fun i=>(T i).id) n x)))/\Below w w w':=by
 have b0:Below w w (w.alloc (.cells #[.int .i64 x] 2)):=Bg w _;have A0:=Ag.new w (.cells #[.int .i64 x] 2);have C1:=qC (Qo a n cap T x w _ hn (hT.below b0) (A0.c0 0 rfl) A0.lt);clear hT;go_enter func117,ntmps117
 go_wp2_with(go_at_call 141;refine C1.out.mono ?_;rintro e w1 ⟨rfl,hb1⟩;have B1:=Af b0 hb1)
 go_ret;exact⟨rfl,B1⟩
end Go.Proofs.YtdaccbddcjlkpaaGreatDoor
