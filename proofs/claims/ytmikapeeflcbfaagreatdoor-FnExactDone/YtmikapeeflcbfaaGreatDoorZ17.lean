import Derived.Test.YtmikapeeflcbfaaGreatDoorZ0
import Derived.Test.YtmikapeeflcbfaaGreatDoorZ16
import Derived.Test.YtmikapeeflcbfaaGreatDoorZ13
import Derived.Test.YtmikapeeflcbfaaGreatDoorZ14
import Derived.Test.YtmikapeeflcbfaaGreatDoorZ10
import Derived.Test.YtmikapeeflcbfaaGreatDoorZ9
import Derived.Test.YtmikapeeflcbfaaGreatDoorZ6
set_option maxRecDepth 100000
set_option maxHeartbeats 16000000
namespace Go.Proofs.YtmikapeeflcbfaaGreatDoor
open Go Go.RowKit Go.Deep Go.Maps Go.BigFrame Go.Shelf Go.Proofs.Tryz
theorem DX.ownRow{w w':World}{B P b:Nat}{s:Ak}{g ca q co:Nat}{lt:List Ac}{lo:List Ab}{t:Nat}{m:Value}(h:DX w B P s g ca q co lt lo t m)(ht:t<lt.length){X:Ac}(hX:X=lt[t])(hb:X.own.a=some ⟨b,0,none⟩)(hn:0<X.own.n)(hg:w.grownBy w' (some b)){d:Av}(hd:d.new B w')(hdc:d.n<=d.k/\d.k<=maxLen)(hda:d.a=X.own.a):
 DX (w'.setCell ⟨g,t*7+5,none⟩ (.slice d.a d.n d.k)) B P s g ca q co (lt.set t ⟨X.id,X.b1,X.c1,X.b2,X.c2,d,X.made⟩) lo t m/\(∃cur,Ah w' g (.cells cur 86))/\B<=g/\B<=b/\Ah w' P (.cells (Hg s g lt.length ca q lo.length co t m) 102)/\g≠b:=by
 obtain⟨k1,⟨cur,hcu⟩,hBg⟩:=h.st.ownRow h.ap ht hX hb hn hg hd hdc;have el:(lt.set t (⟨X.id,X.b1,X.c1,X.b2,X.c2,d,X.made⟩:Ac)).length=lt.length:=by simp
 have hx:=h.st.tn _ (List.getElem_mem ht);rw[<-hX]at hx;obtain⟨b',m',F,eb,hBb,_,hr⟩:=hx.2.2.2 hn;rw[hb]at eb;cases eb;have hcb:X.cb.Nodup:=Cx (L:=lt.map Ac.cb) (t:=t) (by simp[ht,hX]) h.ap.c;have pb:P≠b:=fun e=>by
  obtain⟨c,hc,_⟩:=hr;have hw:=h.wk;unfold Ah at hw;rw[e,hc]at hw;simp at hw
 have wk:Ah w' P (.cells (Hg s g lt.length ca q lo.length co t m) 102):=h.wk.grown hg (fun e=>pb (by have:=Option.some.inj e;omega));have gb:g≠b:=fun e=>by
  obtain⟨c,hc,_⟩:=hr;rcases h.st.t.2 with⟨hv,_⟩|⟨g',cap,cur',hv,_,hgg,_⟩
  ·cases hv
  ·cases hv;rw[e,hc]at hgg;simp at hgg
 refine⟨⟨by rw[el];exact k1,h.ap.setT h.st ht (x:=⟨X.id,X.b1,X.c1,X.b2,X.c2,d,X.made⟩) hcb (fun y hy=> .inl (by rw[<-hX];exact hy)) hd.bs.1 (fun y hy=> .inl ?_),by rw[el];exact wk.other (Ne.symm h.setP.1) _,h.lp⟩,⟨cur,hcu⟩,hBg,hBb,wk,gb⟩;rw[<-hX];have hy':y∈d.bs:=hy;unfold Av.bs at hy' ⊢;rw[hda,hb]at hy';rw[if_pos hn,hb];split at hy'
 ·exact hy'
 ·cases hy'
theorem VX(E:Nat->Addr)(w:World)(B P:Nat)(s:Ak)(g ca q co:Nat)(lt:List Ac)(lo:List Ab)(t:Nat)(m:Value)(h:DX w B P s g ca q co lt lo t m)(he:Jj w E)(h14:14<=B)(hB:B<=w.heap.size)(ht:t<lt.length)(X:Ac)(hX:X=lt[t])(hr:∀i j,i<j->j<X.own.n->X.own.h i≠X.own.h j):
 Calls prog 114 #[.pointer (some ⟨P,0,none⟩)] w fun e w'=>∃(v:Value) (x:Ac) (c:Int),e= .returned v/\DX w' B P s g ca q co (lt.set t x) lo t m/\Below B w w'/\Told w' B E v c/\((c=4/\hasB X.own.n X.own.h s.cat=false/\x=X)∨(c=0/\hasB X.own.n X.own.h s.cat=true/\∃(a:Option Addr) (cc:Nat),x=⟨X.id,X.b1,X.c1,X.b2,X.c2,⟨a,(Cs X.own.h s.cat X.own.n).length,cc,AL (Cs X.own.h s.cat X.own.n)⟩,X.made⟩)):=by
 obtain⟨CW,gl⟩:=h.st.jJ ht;rw[<-hX]at CW;have hx:=h.st.tn _ (List.getElem_mem ht);have hxc:=h.st.tc _ (List.getElem_mem ht);rw[<-hX]at hx hxc;have HN:=hid hx;have HC:=hid hxc;have HW:=hid h;have HE:=hid he;have HX:=hid hX;have HR:=hid hr;have n2:No (.cells (Hg s g lt.length ca q lo.length co t m) 102):=⟨⟩;have BX:Hid (∀W,Below w w W->Ah W P n2/\Dz W g (t*7) X):=hid (fun W hW=>⟨HW.out.wk.below hW,CW.below gl hW⟩);have EI:Hid (∀args w,(callFunc 144 args).run prog w= .ok (.enter 144 args) w):=hid (enters_of func144 (by kernel_rfl) rfl);have ED:Hid (∀args w,(callFunc 145 args).run prog w= .ok (.enter 145 args) w):=hid (enters_of func145 (by kernel_rfl) rfl);clear h he hX hr CW hx hxc;have D0:=hid (Below.refl w w).drew;have P1:Hid (Calls prog 144 #[.slice X.own.a X.own.n X.own.k,s.cat] w.drew fun e w'=>∃v,e= .returned v/\(w'=w.drew/\((v= .int .i64 (-1)/\hasB X.own.n X.own.h s.cat=false)∨∃i:Nat,i<X.own.n/\X.own.h i=s.cat/\(∀j,j<i->X.own.h j≠s.cat)/\hasB X.own.n X.own.h s.cat=true/\v= .int .i64 i))):=hid ((WR X.own.a X.own.n X.own.k X.own.h s.cat w.drew HN.out.2.2.1.1 (HN.out.2.2.1.2.below (Below.refl _ w).drew)).mono fun e w' hh=>by
  obtain⟨rfl,⟨rfl,h2⟩|⟨i,h1,h2,h3,h4,rfl⟩⟩:=hh
  ·exact⟨_,rfl,rfl,.inl ⟨rfl,h2⟩⟩
  ·exact⟨_,rfl,rfl,.inr ⟨i,h1,h2,h3,h4,rfl⟩⟩)
 go_enter func114,ntmps114
 go_upto_region 1 with fail
 refine Am 14 (fun W=>Below w w W) (by kernel_rfl) ?_;have n1:Nv (.pointer (some ⟨P,0,none⟩)):=⟨⟩;refine tq 0 4 n1 D0 ?_;simp only[ap,List.set];refine tq 1 5 n1 D0 ?_;simp only[ap,List.set];have n4:Nv (.pointer (some ⟨P,12,none⟩)):=⟨⟩;refine tq 2 6 n4 D0 ?_;simp only[ap,List.set];have n3:Nv (.pointer (some ⟨g,t*7,none⟩)):=⟨⟩;refine tq 3 7 n3 D0 ?_ (hy:=fun W h=>by obtain⟨⟨k0,k1,k2,k3,k4,k5,k6,k7,k8,k9⟩,_,_,k12,_⟩:=(BX W h).1.work;go_simp);simp only[ap,List.set];refine tq 4 8 n3 D0 ?_;simp only[ap,List.set];have n5:Nv (.pointer (some ⟨g,t*7+5,none⟩)):=⟨⟩;refine tq 5 9 n5 D0 ?_;simp only[ap,List.set];refine tq 6 10 (.slice X.own.a X.own.n X.own.k) D0 ?_ (hy:=fun W h=>by have C:=(BX W h).2;have y5:W.cell? ⟨g,t*7+5,none⟩=some (.slice X.own.a X.own.n X.own.k):=C.c5;go_simp);simp only[ap,List.set];refine tq 7 11 n1 D0 ?_;simp only[ap,List.set];refine tq 8 12 n1 D0 ?_;simp only[ap,List.set];refine tq 9 13 n1 D0 ?_;simp only[ap,List.set];refine tq 10 14 (.pointer (some ⟨P,4,none⟩)) D0 ?_;simp only[ap,List.set];refine tq 11 15 (.int .i64 s.cat) D0 ?_ (hy:=fun W h=>by obtain⟨⟨k0,k1,k2,k3,k4,k5,k6,k7,k8,k9⟩,_,_,k12,_⟩:=(BX W h).1.work;go_simp);simp only[ap,List.set];refine Af (i:=12) (by kernel_rfl) rfl ?_;intro K hK;refine Bb (by rfl) 144 _ _ _ (by rfl) EI _ _ (by rfl) (by rfl) (some 16) (by rfl) _ P1 ?_;rintro v w1 ⟨rfl,hv⟩;refine hK _ _ (fun _=>D0) ?_;clear hK K;simp only[ap,List.set];rcases hv with⟨rfl,hno⟩|⟨i,hi1,hi2,hi3,hyes,rfl⟩
 ·have HNO:=hid hno;clear hno;refine tq 13 3 (.int .i64 (-1)) D0 ?_;simp only[ap,List.set];refine Aj (by kernel_rfl) ?_ _;have e10:=(HE.out.below h14 (D0.out.mono hB) 10 (by omega) (by omega)).1;go_wp2_with fail
  refine(Bi 290 (.pointer (some (E 10))) w.drew).mono ?_;rintro e w2 ⟨rfl,rfl⟩;go_wp2;go_ret;have b2:Below w.drew.heap.size w.drew (w.drew.alloc (.cells #[.int .i64 4,.iface 290 (.pointer (some (E 10)))] 68)):=(Below.refl _ w.drew).alloc (Nat.le_refl _) _;refine⟨_,X,4,rfl,by rw[HX.out,Ek];exact(HW.out.below D0).below b2,(Ae D0 b2).mono hB,.inr ⟨by decide,_,10,rfl,Ah.new w.drew _,by decide,by decide,by decide,hB⟩,.inl ⟨rfl,HNO,rfl⟩⟩
 ·have HYE:=hid hyes;have HI2:=hid hi2;have HI3:=hid hi3;clear hyes hi2 hi3;refine tq 13 3 (.int .i64 i) D0 ?_;simp only[ap,List.set];refine Aj (by kernel_rfl) ?_ _;have i0:¬(i:Int)<0:=by omega
  have il:X.own.n<=maxLen:=HN.out.2.2.1.1;have w1_:IntKind.i64.wrap ((i:Int)+1)=(i:Int)+1:=by rw[IntKind.wrap_i64];unfold maxLen at il;omega
  go_upto_region 4 with fail
  have D1:=hid D0.out.drew;have H2:=hid (HW.out.below D1);have P2:Hid (Calls prog 145 #[.slice X.own.a X.own.n X.own.k,.int .i64 i,.int .i64 (i+1)] w.drew.drew fun e w'=>∃v,e= .returned v/\∃b,v= .slice X.own.a (X.own.n-1) X.own.k/\X.own.a=some ⟨b,0,none⟩/\w.drew.drew.grownBy w' (some b)/\(⟨X.own.a,X.own.n-1,X.own.k,AL (((List.range X.own.n).map X.own.h).take i++((List.range X.own.n).map X.own.h).drop (i+1))⟩:Av).new B w'):=hid ((SY X.own B w.drew.drew (HN.out.2.2.below D1) HC i hi1).mono fun e w' hh=>by
   obtain⟨b,h1,rfl,h3,h4⟩:=hh;exact⟨_,rfl,b,rfl,h1,h3,h4⟩)
  have Z1:Hid ((fun W=>Ah W P n2/\W.cell? ⟨g,t*7+5,none⟩=some (.slice X.own.a X.own.n X.own.k)) w.drew.drew):=hid ⟨(BX _ D1).1,(BX _ D1).2.c5⟩;refine Am 17 (fun W=>Ah W P n2/\W.cell? ⟨g,t*7+5,none⟩=some (.slice X.own.a X.own.n X.own.k)) (by kernel_rfl) ?_;refine tq 0 21 n1 Z1 ?_;simp only[ap,List.set];refine tq 1 22 n1 Z1 ?_;simp only[ap,List.set];refine tq 2 23 n4 Z1 ?_;simp only[ap,List.set];refine tq 3 24 n3 Z1 ?_ (hy:=fun W h=>by obtain⟨⟨k0,k1,k2,k3,k4,k5,k6,k7,k8,k9⟩,_,_,k12,_⟩:=h.1.work;go_simp);simp only[ap,List.set];refine tq 4 25 n1 Z1 ?_;simp only[ap,List.set];refine tq 5 26 n1 Z1 ?_;simp only[ap,List.set];refine tq 6 27 n4 Z1 ?_;simp only[ap,List.set];refine tq 7 28 n3 Z1 ?_ (hy:=fun W h=>by obtain⟨⟨k0,k1,k2,k3,k4,k5,k6,k7,k8,k9⟩,_,_,k12,_⟩:=h.1.work;go_simp);simp only[ap,List.set];refine tq 8 29 n3 Z1 ?_;simp only[ap,List.set];refine tq 9 30 n5 Z1 ?_;simp only[ap,List.set];refine tq 10 31 (.slice X.own.a X.own.n X.own.k) Z1 ?_ (hy:=fun W h=>by have y5:=h.2;go_simp);simp only[ap,List.set];refine tq 11 32 (.int .i64 i) Z1 ?_;simp only[ap,List.set];refine tq 12 33 (.int .i64 i) Z1 ?_;simp only[ap,List.set];refine tq 13 34 (.int .i64 (i+1)) Z1 ?_;simp only[ap,List.set];refine Af (i:=14) (by kernel_rfl) rfl ?_;intro K hK;refine Ey (by rfl) 145 _ _ _ _ (by rfl) ED _ _ _ (by rfl) (by rfl) (by rfl) (some 35) (by rfl) _ P2 ?_;rintro v w3 ⟨b,rfl,hb,hg3,hd⟩;obtain⟨S3,⟨cur,hcu⟩,hBg,hBb,wk3,gb⟩:=H2.out.ownRow ht HX hb (by omega) hg3 hd (show X.own.n-1<=X.own.k/\X.own.k<=maxLen from⟨by have:=HC.out.1;omega,HC.out.2⟩) rfl;have c5:w3.cell? ⟨g,t*7+5,none⟩=some (.slice X.own.a X.own.n X.own.k):=(World.cell?_of_block (a:=⟨g,t*7+5,none⟩) (hg3.block g gl (fun e=>gb (by have:=Option.some.inj e;omega)))).trans (BX _ D1).2.c5;have Z3:Hid ((fun W=>Ah W P n2/\W.cell? ⟨g,t*7+5,none⟩=some (.slice X.own.a X.own.n X.own.k)) w3):=hid ⟨wk3,c5⟩;refine hK _ _ (fun _=>Z3) ?_;clear hK K;simp only[ap,List.set];have S3':=hid S3;have gf:=hcu.jC;have B3:Hid (Below B w w3):=hid ((D1.out.mono hB).trans (below_grown hg3 hB (fun j e=>by have:=Option.some.inj e;omega)));have LC:Hid (Cs X.own.h s.cat X.own.n=(((List.range X.own.n).map X.own.h).take i++((List.range X.own.n).map X.own.h).drop (i+1))):=hid (WZ hi1 HI2 (fun j hj ne=>by
   intro e;rcases Nat.lt_or_gt_of_ne ne with h|h
   ·exact HI3.out j h e
   ·exact HR.out i j h hj (HI2.out.trans e.symm)))
  have LL:Hid ((Cs X.own.h s.cat X.own.n).length=X.own.n-1):=hid (by rw[LC.out];simp;omega);clear S3 hd hg3 hb;refine Af (i:=15) (by kernel_rfl) rfl ?_;intro K hK;go_simp;refine hK _ _ (fun _=>Z3) ?_;clear hK K;try simp only[ap,List.set]
  refine Af (i:=16) (by kernel_rfl) rfl ?_;intro K hK;go_simp;refine hK _ _ (fun _=>Z3) ?_;clear hK K;try simp only[ap,List.set]
  refine Af (i:=17) (by kernel_rfl) rfl ?_;intro K hK;go_simp;refine hK _ _ (fun h=>absurd h (by decide)) ?_;clear hK K;try simp only[Act.put]
  refine Aj (by kernel_rfl) ?_ _;go_wp2;go_ret;exact⟨_,rfl,_,S3',B3.out.setCell hBg _,0,.inl ⟨rfl,rfl⟩,.inr ⟨rfl,HYE,X.own.a,X.own.k,by rw[LL.out,LC.out]⟩⟩
open Go.Sort
theorem On(c:Av)(w:World)(hc:c.at w)(hn:c.n<=1048576):
 Calls prog 119 #[.slice c.a c.n c.k] w fun e w'=>∃(a:Option Addr) (k:Nat),e= .returned (.slice a c.n k)/\Ax w' w (.slice a c.n k) ((List.range c.n).map c.h)/\Below w w w':=by
 obtain⟨a,n,cap,f⟩:=c;obtain⟨hm,hc⟩:=hc;simp only at hm hc hn ⊢;have L0:=hc.intL;have el:((List.range n).map f).length=n:=by simp
 have L:Hid (Bj w a n (((List.range n).map f).map (Value.int .i64))):=hid (by unfold Dd at L0;rw[el]at L0;exact L0);clear hc L0;go_enter func119,ntmps119
 go_wp2_with(refine By underlying76 Tryz.info2 rfl (by omega) _ rfl _ _ rfl w (.slice none 0 0) 0 [] rfl (World.ownsRow_nil _ _ _ _) a n cap (((List.range n).map f).map (Value.int .i64)) rfl (by simp) L (fun u hu=>by obtain⟨y,_,rfl⟩:=List.mem_map.1 hu;rfl) (by omega) (by omega) (Nat.le_refl _) ?_;intro a3 c3 w3 o3 g3;rw[Nat.zero_add,List.nil_append]at o3;rw[Nat.zero_add])
 go_ret;exact⟨a3,c3,rfl,by unfold Ax;rw[el];exact o3,below_grown g3 (Nat.le_refl _) (fun j hj=>by cases hj)⟩
theorem Rf(l:List Int):(Lib.compact l).length<=l.length:=by
 unfold Lib.compact Lib.compactUpTo;rw[List.length_map];exact Nat.le_trans (List.length_filter_le _ _) (by simp)
theorem RN(B c:Nat)(a:Option Addr)(l:List Int)(w:World)(h:Ax w B (.slice a l.length c) l)(hl:l.length<=100000):
 Calls prog 158 #[.slice a l.length c] w fun e w'=>e= .returned (.slice a (Lib.compact l).length c)/\Ax w' B (.slice a (Lib.compact l).length c) (Lib.compact l)/\w.grownBy w' (Value.slice a l.length c).ownBlock:=by
 rcases h.2 with⟨hv,hn⟩|⟨g,cap,cur,hv,hB,hb,h1,h2,h3,h4⟩
 ·have e0:l=[]:=List.eq_nil_of_length_eq_zero hn;subst e0;have hh:Calls prog 158 #[.slice a 0 c] w _:=AnyG.slices_Compact_int_empty Tryz.compA a c w;refine hh.mono ?_;rintro e w' ⟨rfl,rfl⟩;have e0:Lib.compact ([]:List Int)=[]:=rfl;rw[e0];exact⟨rfl,h,⟨rfl,rfl,rfl,Nat.le_refl _,fun _ _ _=>rfl⟩⟩
 ·simp only[Value.slice.injEq]at hv;obtain⟨rfl,_,rfl⟩:=hv;have hh:Calls prog 158 #[.slice (some ⟨g,0,none⟩) l.length c] w _:=AnyG.slices_Compact_int Tryz.compA g 0 c l w (holds_of_blockI hb (by simpa using h4)) (by omega) h1;refine hh.mono ?_;rintro e w' ⟨rfl,q,rfl⟩;have cl:=Rf l;have ll:(Lib.compact l++List.replicate (l.length-(Lib.compact l).length) 0).length=l.length:=by simp;omega
  refine⟨rfl,⟨by simp,.inr ⟨g,c,_,rfl,hB,Sf _ hb,by omega,h2,by simp[putCells,h3],?_⟩⟩,OU _⟩;have t:=take_putCellsI cur (Lib.compact l++List.replicate (l.length-(Lib.compact l).length) 0) (by rw[ll];omega);rw[ll]at t;have t2:=congrArg (List.take (Lib.compact l).length) t;rw[List.take_take,Nat.min_eq_left cl,List.map_append,List.take_append_of_le_length (by simp)]at t2;rw[Nat.mul_one];exact t2.trans (List.take_of_length_le (by simp))
theorem Jv(c d:Av)(w:World)(hc:c.at w)(hd:d.at w)(hn:c.n<=1000)(hm:d.n<=1000):
 Calls prog 131 #[.slice c.a c.n c.k,.slice d.a d.n d.k] w fun e w'=>∃(a:Option Addr) (k:Nat) (L:List Int),L=Lib.compact (Ce ((List.range c.n).map c.h++(List.range d.n).map d.h))/\e= .returned (.slice a L.length k)/\Ax w' w (.slice a L.length k) L/\Below w w w':=by
 have HD:=hid hd;have CC:=hid (On c w hc (by omega));clear hc hd;go_enter func131,ntmps131
 go_wp2_with fail
 refine CC.out.mono ?_;rintro e w1 ⟨a1,k1,rfl,o1,b1⟩;have el:((List.range d.n).map d.h).length=d.n:=by simp
 have el1:((List.range c.n).map c.h).length=c.n:=by simp
 have L0:=(HD.out.below b1).2.intL;have L:Hid (Bj w1 d.a d.n (((List.range d.n).map d.h).map (Value.int .i64))):=hid (by unfold Dd at L0;rw[el]at L0;exact L0);have O1:=hid o1;have B1:=hid b1;clear L0 o1 b1;have OR:Hid (w1.ownsRow w 2 1 (.slice a1 c.n k1) c.n (((List.range c.n).map c.h).map (Value.int .i64))):=hid (by have:=O1.out;unfold Ax at this;rw[el1]at this;exact this);have s1:=B1.out.size;go_wp2_with(refine By underlying76 Tryz.info2 rfl (by omega) _ rfl _ _ rfl w (.slice a1 c.n k1) c.n (((List.range c.n).map c.h).map (Value.int .i64)) rfl OR d.a d.n d.k (((List.range d.n).map d.h).map (Value.int .i64)) rfl (by simp) L (fun u hu=>by obtain⟨y,_,rfl⟩:=List.mem_map.1 hu;rfl) (by omega) (by omega) s1 ?_;intro a3 c3 w3 o3 g3;rw[<-List.map_append]at o3)
 obtain⟨S,hS⟩:∃S,S=(List.range c.n).map c.h++(List.range d.n).map d.h:=⟨_,rfl⟩;rw[<-hS]at o3;have LS:Hid (S.length=c.n+d.n):=hid (by rw[hS];simp);have HS:=hid hS;have O3:Hid (Ax w3 w (.slice a3 (c.n+d.n) c3) S):=hid (by unfold Ax;rw[LS.out];exact o3);have B3:Hid (Below w w w3):=hid (B1.out.trans (below_grown g3 B1.out.size (fun j e=>(World.ownsRow.lt OR j e).1)));have SO:=hid (Q7 w _ S w3 O3 (by rw[LS.out];omega));clear o3 g3 hS L OR O1 el el1 s1 CC HD B1;refine SO.out.mono ?_;rintro e w4 ⟨rfl,o4,g4⟩;have B4:Hid (Below w w w4):=hid (B3.out.trans (below_grown g4 B3.out.size (fun j e=>(World.ownsRow.lt O3 j e).1)));have E4:Hid (c.n+d.n=(Ce S).length):=hid (by rw[FY,LS.out]);have O4:Hid (Ax w4 w (.slice a3 (Ce S).length c3) (Ce S)):=hid (by rw[<-E4.out];exact o4);have CP:Hid (Calls prog 158 #[.slice a3 (c.n+d.n) c3] w4 _):=hid (by rw[E4.out];exact RN w c3 a3 (Ce S) w4 O4 (by rw[<-E4.out];omega));clear o4 g4 SO O3;go_wp2_with fail
 refine CP.out.mono ?_;rintro e w5 ⟨rfl,o5,g5⟩;have O5:=hid o5;have B5:Hid (Below w w w5):=hid (B4.out.trans (below_grown g5 B4.out.size (fun j e=>(World.ownsRow.lt O4 j e).1)));clear o5 g5;go_wp2;go_ret;exact⟨a3,c3,_,by rw[HS.out],rfl,O5,B5⟩
theorem Lo{F:Func}(hF:F.results=#[.tmp 2,.tmp 3])(tmps:Array Value)(W:World)(x y:Value)(h2:tmps[2]? =some x)(h3:tmps[3]? =some y):
 (results F tmps).run prog W= .ok (.tuple #[x,y]) W:=by
 simp[results,hF,go_sem,h2,h3]
theorem Qv(E:Nat->Addr)(w:World)(B P:Nat)(s:Ak)(g ca q co:Nat)(lt:List Ac)(lo:List Ab)(t:Nat)(m:Value)(h:DX w B P s g ca q co lt lo t m)(he:Jj w E)(hB:B<=w.heap.size)(ht:t<lt.length)(X:Ac)(hX:X=lt[t])(hf:X.made=30∨X.own.n=10):
 Calls prog 110 #[.pointer (some ⟨P,0,none⟩)] w fun e w'=>∃(v:Value),e= .returned (.tuple #[.string ⟨#[]⟩,v])/\DX w' B P s g ca q co lt lo t m/\Below B w w'/\Told w' B E v 5:=by
 obtain⟨CW,gl⟩:=h.st.jJ ht;rw[<-hX]at CW;have q6:w.cell? ⟨g,t*7+6,none⟩=some (.int .i64 X.made):=CW.c6;have q5:w.cell? ⟨g,t*7+5,none⟩=some (.slice X.own.a X.own.n X.own.k):=CW.c5;obtain⟨_,_,_,c12,_⟩:=h.wk.work;have e4:=(he 4 (by omega) (by omega)).1;have e5:=(he 5 (by omega) (by omega)).1;have HW:=hid h;clear h he hX CW;by_cases h1:X.made=30
 ·have b1:(X.made==30)=true:=by simpa using h1
  clear hf;rw[h1]at q6;go_enter func110,ntmps110
  go_wp2_with fail
  refine(Cl 5 290 (.pointer (some (E 4))) w).mono ?_;rintro e w2 ⟨rfl,rfl⟩;go_wp2;have b2:Below w w (w.alloc (.cells #[.int .i64 5,.iface 290 (.pointer (some (E 4)))] 68)):=(Below.refl _ w).alloc (Nat.le_refl _) _;exact bodyPost_ret (Lo Tryz.results110 _ _ _ _ rfl rfl) rfl ⟨_,rfl,HW.out.below b2,b2.mono hB,.inr ⟨by decide,_,4,rfl,Ah.new w _,by decide,by decide,by decide,hB⟩⟩
 ·have b1:(X.made==30)=false:=by simpa using h1
  have h2:X.own.n=10:=by rcases hf with h|h;exact absurd h h1;exact h
  clear hf;rw[h2]at q5;go_enter func110,ntmps110
  go_wp2_with fail
  refine(Cl 5 290 (.pointer (some (E 5))) w).mono ?_;rintro e w2 ⟨rfl,rfl⟩;go_wp2;have b2:Below w w (w.alloc (.cells #[.int .i64 5,.iface 290 (.pointer (some (E 5)))] 68)):=(Below.refl _ w).alloc (Nat.le_refl _) _;exact bodyPost_ret (Lo Tryz.results110 _ _ _ _ rfl rfl) rfl ⟨_,rfl,HW.out.below b2,b2.mono hB,.inr ⟨by decide,_,5,rfl,Ah.new w _,by decide,by decide,by decide,hB⟩⟩
theorem Ax.new{w:World}{B k:Nat}{a:Option Addr}{l:List Int}(h:Ax w B (.slice a l.length k) l)(hm:l.length<=maxLen):(⟨a,l.length,k,AL l⟩:Av).new B w:=
 ⟨⟨hm,(Ax.lies h).ints⟩,fun h0=>by have:=Dp h h0;simpa using this⟩
theorem DX.setOwn{w0 wr:World}{B P:Nat}{s:Ak}{g ca q co:Nat}{lt:List Ac}{lo:List Ab}{t:Nat}{m:Value}(h0:DX w0 B P s g ca q co lt lo t m)(h:DX wr B P s g ca q co lt lo t m){d:Av}(ht:t<lt.length){X:Ac}(hX:X=lt[t])(hd:d.new w0 wr)(hdc:d.n<=d.k/\d.k<=maxLen)(hB:B<=w0.heap.size):
 DX (wr.setCell ⟨g,t*7+5,none⟩ (.slice d.a d.n d.k)) B P s g ca q co (lt.set t ⟨X.id,X.b1,X.c1,X.b2,X.c2,d,X.made⟩) lo t m/\B<=g/\∃cur,Ah wr g (.cells cur 86):=by
 obtain⟨k1,⟨cur,hc⟩,hg⟩:=h.st.setOwn ht hX (hd.low hB) hdc;have el:(lt.set t (⟨X.id,X.b1,X.c1,X.b2,X.c2,d,X.made⟩:Ac)).length=lt.length:=by simp
 have hn:X.cb.Nodup:=Cx (L:=lt.map Ac.cb) (t:=t) (by simp[ht,hX]) h.ap.c;exact⟨⟨by rw[el];exact k1,h.ap.setT h0.st ht (x:=⟨X.id,X.b1,X.c1,X.b2,X.c2,d,X.made⟩) hn (fun b hb=> .inl (by rw[<-hX];exact hb)) hd.bs.1 (fun y hy=> .inr (hd.bs.2 y hy).1),by rw[el];exact h.wk.other (Ne.symm h.setP.1) _,h.lp⟩,hg,cur,hc⟩
theorem RE(w:World)(B P:Nat)(s:Ak)(g ca q co:Nat)(lt:List Ac)(lo:List Ab)(t:Nat)(m:Value)(h:DX w B P s g ca q co lt lo t m)(hB:B<=w.heap.size)(ht:t<lt.length)(X:Ac)(hX:X=lt[t])(h1:X.made≠30)(h2:X.own.n≠10)(hi:1<=X.id/\X.id<=1000000)(hm:0<=X.made/\X.made<=1000000)(hn:X.own.n<=1000)(tx:ByteArray)
 (DEC:∀W,Below B w W->Calls prog 132 #[.int .i64 (Au X)] W fun e w'=>e= .returned (.string tx)/\Below W W w'):
 Calls prog 110 #[.pointer (some ⟨P,0,none⟩)] w fun e w'=>∃(a:Option Addr) (cc:Nat) (L:List Int),L=Lib.compact (Ce ((List.range X.own.n).map X.own.h++[Au X]))/\e= .returned (.tuple #[.string tx,.nilIface])/\DX w' B P s g ca q co (lt.set t ⟨X.id,X.b1,X.c1,X.b2,X.c2,⟨a,L.length,cc,AL L⟩,X.made+1⟩) lo t m/\Below B w w':=by
 obtain⟨CW,gl⟩:=h.st.jJ ht;rw[<-hX]at CW;have q6:w.cell? ⟨g,t*7+6,none⟩=some (.int .i64 X.made):=CW.c6;have q5:w.cell? ⟨g,t*7+5,none⟩=some (.slice X.own.a X.own.n X.own.k):=CW.c5;obtain⟨_,_,_,c12,_⟩:=h.wk.work;have NUM:=hid (Uh w B P s g ca q co lt lo t m h ht X hX hi hm);have HD:=hid DEC;have b1:(X.made==30)=false:=by simpa using h1
 have b2:¬(X.own.n:Int)=10:=by omega
 have b3:((X.own.n:Int)==10)=false:=by simpa using b2
 have HX:=hid hX;clear h CW hX DEC;go_enter func110,ntmps110
 go_wp2_with fail
 refine NUM.out.mono ?_;rintro e w1 ⟨rfl,s1,bb1⟩;have el:(lt.set t (⟨X.id,X.b1,X.c1,X.b2,X.c2,X.own,X.made+1⟩:Ac)).length=lt.length:=by simp
 have S1:Hid (DX w1 B P s g ca q co (lt.set t ⟨X.id,X.b1,X.c1,X.b2,X.c2,X.own,X.made+1⟩) lo t m):=hid s1;have B1:=hid bb1;obtain⟨C1,gl1⟩:=s1.st.jJ (t:=t) (by rw[el];exact ht);have eg:(lt.set t (⟨X.id,X.b1,X.c1,X.b2,X.c2,X.own,X.made+1⟩:Ac))[t]'(by rw[el];exact ht)=⟨X.id,X.b1,X.c1,X.b2,X.c2,X.own,X.made+1⟩:=by simp
 rw[eg]at C1;have n2:No (.cells (Hg s g lt.length ca q lo.length co t m) 102):=⟨⟩;have Z1:Hid ((fun W=>Ah W P n2/\W.cell? ⟨g,t*7+5,none⟩=some (.slice X.own.a X.own.n X.own.k)) w1.drew):=hid ⟨by have:=s1.wk;rw[el]at this;exact this,C1.c5⟩;have XA:Hid (X.own.at w1.drew):=hid (by have:=(s1.st.tn _ (List.getElem_mem (show t<_ by rw[el];exact ht)));rw[eg]at this;exact this.2.2.1.below (Below.refl _ w1).drew);have ET:Hid (∀args w,(callFunc 131 args).run prog w= .ok (.enter 131 args) w):=hid (enters_of func131 (by kernel_rfl) rfl);clear NUM s1 bb1 C1 q6 q5 c12 eg;go_upto_region 6 with fail
 refine Am 16 (fun W=>Ah W P n2/\W.cell? ⟨g,t*7+5,none⟩=some (.slice X.own.a X.own.n X.own.k)) (by kernel_rfl) ?_;have n3:Nv (.pointer (some ⟨P,0,none⟩)):=⟨⟩;refine tq 0 28 n3 Z1 ?_;simp only[ap,List.set];refine tq 1 29 n3 Z1 ?_;simp only[ap,List.set];have n5:Nv (.pointer (some ⟨P,12,none⟩)):=⟨⟩;refine tq 2 30 n5 Z1 ?_;simp only[ap,List.set];have n4:Nv (.pointer (some ⟨g,t*7,none⟩)):=⟨⟩;refine tq 3 31 n4 Z1 ?_ (hy:=fun W h=>by obtain⟨_,_,_,k12,_⟩:=h.1.work;go_simp);simp only[ap,List.set];refine tq 4 32 n3 Z1 ?_;simp only[ap,List.set];refine tq 5 33 n3 Z1 ?_;simp only[ap,List.set];refine tq 6 34 n5 Z1 ?_;simp only[ap,List.set];refine tq 7 35 n4 Z1 ?_ (hy:=fun W h=>by obtain⟨_,_,_,k12,_⟩:=h.1.work;go_simp);simp only[ap,List.set];refine tq 8 36 n4 Z1 ?_;simp only[ap,List.set];refine tq 9 37 (.pointer (some ⟨g,t*7+5,none⟩)) Z1 ?_;simp only[ap,List.set];refine tq 10 38 (.slice X.own.a X.own.n X.own.k) Z1 ?_ (hy:=fun W h=>by have y5:=h.2;go_simp);simp only[ap,List.set];refine tq 11 39 (.int .i64 (Au X)) Z1 ?_;simp only[ap,List.set];have n1:Nw (w1.alloc (.cells #[.int .i64 (Au X)] 2)):=⟨⟩;have BA:Below w1 w1 (n1:World).drew:=((Below.refl _ w1).alloc (Nat.le_refl _) _).drew;have ZA:Hid ((fun W=>Ah W P n2/\W.cell? ⟨g,t*7+5,none⟩=some (.slice X.own.a X.own.n X.own.k)) (n1:World).drew):=hid ⟨(show Ah w1 P _ from Z1.out.1).below BA,(BA.cell (p:=⟨g,t*7+5,none⟩) gl1).trans (show w1.cell? ⟨g,t*7+5,none⟩=_ from Z1.out.2)⟩;have DC:((n1:World).drew).cell? ⟨w1,0,none⟩=some (.int .i64 (Au X)):=by go_simp
 have DA:Hid ((⟨some ⟨w1,0,none⟩,1,1,fun _=>Au X⟩:Av).at (n1:World).drew):=hid ⟨by show 1<=maxLen;unfold maxLen;decide,fun _=>⟨w1,0,rfl,by simp[World.drew],fun j hj=>by
  have e:j=0:=by simp at hj;omega
  subst e;exact DC⟩⟩
 clear DC;have P2:Hid (Calls prog 131 #[.slice X.own.a X.own.n X.own.k,.slice (some ⟨w1,0,none⟩) 1 1] (n1:World).drew fun e w'=>∃v,e= .returned v/\∃(a:Option Addr) (k:Nat) (L:List Int),L=Lib.compact (Ce ((List.range X.own.n).map X.own.h++[Au X]))/\v= .slice a L.length k/\Ax w' (n1:World).drew.heap.size (.slice a L.length k) L/\Below (n1:World).drew.heap.size (n1:World).drew w'):=hid ((Jv X.own ⟨some ⟨w1,0,none⟩,1,1,fun _=>Au X⟩ (n1:World).drew ((show X.own.at w1 from XA.out).below BA) DA hn (by simp)).mono fun e w' hh=>by
  obtain⟨a,k,L,h1,rfl,h3,h4⟩:=hh;exact⟨_,rfl,a,k,L,h1,rfl,h3,h4⟩)
 refine Af (i:=12) (by kernel_rfl) rfl ?_;intro K hK;go_simp;refine hK _ _ (fun _=>ZA) ?_;clear hK K;try simp only[ap,List.set]
 have SA:=hid (S1.out.below BA);have A1:=hid (B1.out.trans (BA.mono (Nat.le_trans hB B1.out.size)));have sz:B<=((n1:World).drew).heap.size:=Nat.le_trans hB A1.out.size;refine Af (i:=13) (by kernel_rfl) rfl ?_;intro K hK;refine Bb (by rfl) 131 _ _ _ (by rfl) ET _ _ (by rfl) (by rfl) (some 41) (by rfl) _ P2 ?_;rintro v w3 ⟨a,k,L,hL,rfl,o3,b3⟩;have S3:=hid (SA.out.below b3);have wk3:=S3.out.wk;rw[el]at wk3;have gl3:g<((n1:World).drew).heap.size:=Nat.lt_of_lt_of_le gl1 BA.size;have c5:w3.cell? ⟨g,t*7+5,none⟩=some (.slice X.own.a X.own.n X.own.k):=(b3.cell (p:=⟨g,t*7+5,none⟩) gl3).trans ZA.out.2;have Z3:Hid ((fun W=>Ah W P n2/\W.cell? ⟨g,t*7+5,none⟩=some (.slice X.own.a X.own.n X.own.k)) w3):=hid ⟨wk3,c5⟩;have cap:=Da o3;have dn:=o3.new (Nat.le_trans cap.1 cap.2);obtain⟨S4,hBg,cur,hcu⟩:=SA.out.setOwn S3 (d:=⟨a,L.length,k,AL L⟩) (by rw[el];exact ht) (X:=⟨X.id,X.b1,X.c1,X.b2,X.c2,X.own,X.made+1⟩) (by simp) dn cap sz;rw[List.set_set]at S4;have S4':=hid S4;have gf:=hcu.jC;have B3:=hid (A1.out.trans (b3.mono sz));have HL:=hid hL;have KK:=hK;refine KK _ _ (fun _=>Z3) ?_;clear hK KK K S4 dn o3 b3 wk3 hL;simp only[ap,List.set];refine Af (i:=14) (by kernel_rfl) rfl ?_;intro K hK;go_simp;refine hK _ _ (fun _=>Z3) ?_;clear hK K;try simp only[ap,List.set]
 refine Af (i:=15) (by kernel_rfl) rfl ?_;intro K hK;go_simp;refine hK _ _ (fun _=>Z3) ?_;clear hK K;try simp only[ap,List.set]
 refine Af (i:=16) (by kernel_rfl) rfl ?_;intro K hK;go_simp;refine hK _ _ (fun h=>absurd h (by decide)) ?_;clear hK K;try simp only[Act.put]
 refine Aj (by kernel_rfl) ?_ _;have B4:=hid (B3.out.setCell (p:=⟨g,t*7+5,none⟩) hBg (.slice a L.length k));go_wp2_with fail
 refine(HD _ B4).mono ?_;rintro e w5 ⟨rfl,b5⟩;have S5:=hid (S4'.out.below b5);have B5:=hid (B4.out.trans (b5.mono (Nat.le_trans hB B4.out.size)));clear b5;go_wp2;go_ret2;exact⟨a,k,L,HL,rfl,S5,B5⟩
theorem CI{P:Program}{ops:Array Oper}{Q:Exit->Act->World->Prop}{md:Region.Mode}{S:World->Prop}{m:Nat}{i j:Nat}{o o':Oper}{fuel:Nat}{listed:Array Bool}{a:Act}{w:World}(hr:Region.ready md ops listed=[i,j])(ho:ops[i]? =some o)(ho':ops[j]? =some o')
 (h:∀K':Act->World->Prop,Shut (∀a w,((listed.setIfInBounds i true).getD m false=false->S w)->Cr P md ops Q S m fuel (listed.setIfInBounds i true) a w->K' a w)->if Region.wanted o (yielded ops a.tmps)=true then Oper.wp P o a w K' Q else K' (a.put o.dst undef) w)
 (h':∀K':Act->World->Prop,Shut (∀a w,((listed.setIfInBounds j true).getD m false=false->S w)->Cr P md ops Q S m fuel (listed.setIfInBounds j true) a w->K' a w)->if Region.wanted o' (yielded ops a.tmps)=true then Oper.wp P o' a w K' Q else K' (a.put o'.dst undef) w):
 Cr P md ops Q S m (fuel+1) listed a w:=
 ⟨fun h0=>(by rw[hr]at h0;cases h0),fun k hk=>by
   rw[hr]at hk;rcases List.mem_cons.1 hk with rfl|hk
   ·exact wpOp_step ho (fun K' hK=>h K' (fun a w hS hW=>hK a w ⟨hS,hW⟩))
   ·obtain rfl:=List.mem_singleton.1 hk;exact wpOp_step ho' (fun K' hK=>h' K' (fun a w hS hW=>hK a w ⟨hS,hW⟩))⟩
theorem Dm{f:Nat}{a:Array Value}{W:World}{v:Value}{R:World->Prop}(h:Calls prog f a W fun e w'=>e= .returned v/\R w'):Calls prog f a W fun e w'=>∃x,e= .returned x/\(x=v/\R w'):=h.mono fun _ _ ⟨e1,h1⟩=>⟨_,e1,rfl,h1⟩
def GI(X:Ac)(b:Int)(c:Al):Bool:=Ch b c.n c.f c.g X.own.n X.own.h X.b1 X.c1.n X.c1.f X.c1.g
def Ap(X:Ac)(b:Int)(c:Al):Bool:=GI X b c&&Ch X.b1 X.c1.n X.c1.f X.c1.g X.own.n X.own.h b c.n c.f c.g
theorem ZM(X:Ac)(b:Int)(c:Al)(W:World)(hX:X.at W)(xs:X.small)(r1:El X.c1)(hc:c.at W)(hn:c.n<=1048576)(rc:El c):
 Calls prog 93 #[.agg #[X.id,X.b1,.slice X.c1.a X.c1.n X.c1.k,X.b2,.slice X.c2.a X.c2.n X.c2.k,.slice X.own.a X.own.n X.own.k,X.made],.agg #[.int .i64 b,.slice c.a c.n c.k]] W fun e w'=>e= .returned (.bool (GI X b c))/\Below W W w':=
 Ns X.id X.made X.b1 X.c1.a X.c1.n X.c1.k X.c1.f X.c1.g X.b2 X.c2.a X.c2.n X.c2.k X.c2.f X.c2.g X.own.a X.own.n X.own.k X.own.h b c.a c.n c.k c.f c.g W hX.1.1 hX.2.1.1 hX.2.2.1 hX.1.2 hX.2.1.2 hX.2.2.2 hc.1 hc.2 xs.1 hn r1 rc
theorem FX(X:Ac)(b:Int)(c:Al)(W:World)(hX:X.at W)(xs:X.small)(r1:El X.c1)(hc:c.at W)(hn:c.n<=1048576)(rc:El c):
 Calls prog 89 #[.agg #[X.id,X.b1,.slice X.c1.a X.c1.n X.c1.k,X.b2,.slice X.c2.a X.c2.n X.c2.k,.slice X.own.a X.own.n X.own.k,X.made],.agg #[.int .i64 b,.slice c.a c.n c.k]] W fun e w'=>e= .returned (.bool (Ap X b c))/\Below W W w':=
 Nz X.id X.made X.b1 X.c1.a X.c1.n X.c1.k X.c1.f X.c1.g X.b2 X.c2.a X.c2.n X.c2.k X.c2.f X.c2.g X.own.a X.own.n X.own.k X.own.h b c.a c.n c.k c.f c.g W hX.1.1 hX.2.1.1 hX.2.2.1 hX.1.2 hX.2.1.2 hX.2.2.2 hc.1 hc.2 xs.1 hn r1 rc
def Dx(b:Int)(c:Al)(o:Av)(b':Int)(c':Al):Bool:=Ch b c.n c.f c.g o.n o.h b' c'.n c'.f c'.g
theorem Qj(b:Int)(c:Al)(o:Av)(b':Int)(c':Al)(W:World)(hc:c.at W)(ho:o.at W)(hc':c'.at W)(n1:c.n<=1048576)(n2:c'.n<=1048576)(r1:El c)(r2:El c'):
 Calls prog 86 #[.agg #[.int .i64 b,.slice c.a c.n c.k],.slice o.a o.n o.k,.agg #[.int .i64 b',.slice c'.a c'.n c'.k]] W fun e w'=>e= .returned (.bool (Dx b c o b' c'))/\Below W W w':=
 FK _ _ _ _ c.f c.g _ _ _ o.h _ _ _ _ c'.f c'.g W n1 n2 ho.1 hc.2 hc'.2 ho.2 r1 r2
theorem Zh(o:Av)(x:Int)(W:World)(ho:o.at W):
 Calls prog 88 #[.slice o.a o.n o.k,.int .i64 x] W fun e w'=>e= .returned (.bool (hasB o.n o.h x))/\w'=W:=Iz _ _ _ o.h x W ho.1 ho.2
def Gw(lo:List Ab)(x:Int):Option Nat:=Bd (fun i=>(Aa lo i).id) lo.length x
def Vx(lt:List Ac)(x:Int):Option Nat:=Bd (fun i=>(As lt i).id) lt.length x
theorem Ge{lo:List Ab}{x:Int}{u:Nat}(h:Gw lo x=some u):∃hu:u<lo.length,(lo[u]'hu).id=x:=by
 obtain⟨h1,h2⟩:=AE h;refine⟨h1,?_⟩;have e1:Aa lo u=lo[u]:=by simp[Aa,h1]
 rw[<-e1];exact h2
theorem M9{w:World}{B ca co:Nat}{ta oa:Option Addr}{lt:List Ac}{lo:List Ab}(h:Cg w B (.slice ta lt.length ca) (.slice oa lo.length co) lt lo)(h1:lt.length<=1048576)(h2:lo.length<=1048576)(h3:∀x∈lo,x.data.size<=maxLen)(x:Int):
 Calls prog 41 #[.agg #[.slice ta lt.length ca,.slice oa lo.length co],.int .i64 x] w fun e w'=>e= .returned (.int .i64 (Gf (Gw lo x)))/\Below w w w':=Jf (DW ta ca oa co lt lo) x w (h.at h1 h2 h3)
theorem ZU(ta:Option Addr)(ca:Nat)(oa:Option Addr)(co:Nat)(lt:List Ac)(lo:List Ab):(DW ta ca oa co lt lo).oL lo.length=lo:=by
 refine List.ext_getElem (by simp[Ar.oL]) fun i h1 h2=>?_;simp[Ar.oL,DW,Aa,h2]
theorem aN{w:World}{B ca co:Nat}{ta oa:Option Addr}{lt:List Ac}{lo:List Ab}(h:Cg w B (.slice ta lt.length ca) (.slice oa lo.length co) lt lo)(h1:lt.length<=1048576)(h2:lo.length<=1048000)(h3:∀x∈lo,x.data.size<=maxLen)(o:Ab):
 Calls prog 90 #[.agg #[.slice ta lt.length ca,.slice oa lo.length co],.agg #[o.id,o.kind,o.up,o.b1,.slice o.c1.a o.c1.n o.c1.k,.string o.data,.slice o.jA.a o.jA.n o.jA.k,.slice o.own.a o.own.n o.own.k,o.b2,.slice o.c2.a o.c2.n o.c2.k]] w fun e w'=>∃(ob:Option Addr) (cb:Nat),e= .returned (.agg #[.slice ta lt.length ca,.slice ob (Be o lo).length cb])/\AI w' w (.slice ob (Be o lo).length cb) (Be o lo)/\Below w w w':=by
 have:=Wo (DW ta ca oa co lt lo) o w (h.at h1 (by omega) h3) h2;have e:(DW ta ca oa co lt lo).oL (DW ta ca oa co lt lo).on=lo:=ZU ta ca oa co lt lo;rw[e]at this;exact this
def Fl(X:Ac)(s:Ak)(lo:List Ab):Bool:=
 match Gw lo s.id with
 |none=>false
 |some u=>decide ((Aa lo u).kind=3)&&Ap X (Aa lo u).b1 (Aa lo u).c1&&Dx X.b1 X.c1 X.own s.b1 s.c1&&Dx s.b1 s.c1 X.own X.b2 X.c2&&(!decide (0<s.cat)||hasB X.own.n X.own.h s.cat)
def DJ(kind:Int):Nat:=if kind=1 then 203 else if kind=2 then 205 else if kind=3 then 207 else 209
theorem Ic(w:World)(B P:Nat)(s:Ak)(g ca q co:Nat)(lt:List Ac)(lo:List Ab)(t c C n:Nat)(ids:Nat->Int)(nb:Nat->Nat)(kv:Nat->Value)(K:Nat->List Int)(h:DX w B P s g ca q co lt lo t (.map (some c)))(hn:Dj w C c n ids q 0 nb kv K)(hl:n<=lo.length)(hd:∀x∈lo,x.data.size<=maxLen)(id:Int)(hi:(Lit.int .i64 id).wf=true):
 Calls prog 146 #[.pointer (some ⟨P,0,none⟩),.int .i64 id] w fun e w'=>((Bd ids n id=none/\e= .returned .nilIface)∨∃i,Bd ids n id=some i/\e= .returned (.iface (DJ (Aa lo i).kind) (.agg #[.pointer (some ⟨q,i*10,none⟩)])))/\Below w w w':=by
 obtain⟨_,_,_,_,c13⟩:=h.wk.work;have LK:=hn.map.look hi;cases hf:Bd ids n id with
 |none=>
  rw[hf]at LK;simp only[Option.map_none]at LK;go_enter func146,ntmps146
  go_wp2;go_ret;exact⟨.inl ⟨by first|trivial|rfl,rfl⟩,Below.refl _ _⟩
 |some i=>
  rw[hf]at LK;simp only[Option.map_some]at LK;obtain⟨hin,_⟩:=AE hf;obtain⟨z0,z1⟩:=(hn.blk i hin).two;rw[Nat.zero_add]at z0;obtain⟨CW,gl⟩:=h.st.jF (t:=i) (by omega) hd;have eo:lo[i]'(by omega)=Aa lo i:=by simp[Aa,show i<lo.length by omega]
  rw[eo]at CW;have nl:nb i<w.heap.size:=(hn.blk i hin).lt;have k1:w.cell? ⟨q,i*10+1,none⟩=some (.int .i64 (Aa lo i).kind):=CW.c1;have n1:No (.cells #[.pointer (some ⟨q,i*10,none⟩)] 201):=⟨⟩;have e0:(w.alloc n1).cell? ⟨nb i,0,none⟩=some (.pointer (some ⟨q,i*10,none⟩)):=(((hn.blk i hin).alloc _).two.1).trans (by rw[Nat.zero_add]);have e1:(w.alloc n1).cell? ⟨q,i*10+1,none⟩=some (.int .i64 (Aa lo i).kind):=(CW.below gl ((Below.refl _ w).alloc (Nat.le_refl _) _)).c1;have BL:=hid ((Below.refl w w).alloc (Nat.le_refl _) n1);clear CW eo;obtain⟨kd,hk⟩:∃kd,(Aa lo i).kind=kd:=⟨_,rfl⟩;rw[hk]at k1 e1;have HK:=hid hk;clear hk;by_cases h1:kd=1
  ·subst h1;go_enter func146,ntmps146
   go_wp2;go_ret;exact⟨.inr ⟨i,rfl,by rw[HK.out];rfl⟩,BL⟩
  ·by_cases h2:kd=2
   ·subst h2;go_enter func146,ntmps146
    go_wp2;go_ret;exact⟨.inr ⟨i,rfl,by rw[HK.out];rfl⟩,BL⟩
   ·by_cases h3:kd=3
    ·subst h3;go_enter func146,ntmps146
     go_wp2;go_ret;exact⟨.inr ⟨i,rfl,by rw[HK.out];rfl⟩,BL⟩
    ·have ty:DJ kd=209:=(by unfold DJ;rw[if_neg h1,if_neg h2,if_neg h3]);go_enter func146,ntmps146
     go_wp2;go_ret;exact⟨.inr ⟨i,rfl,by rw[HK.out,ty];rfl⟩,BL⟩
end Go.Proofs.YtmikapeeflcbfaaGreatDoor
