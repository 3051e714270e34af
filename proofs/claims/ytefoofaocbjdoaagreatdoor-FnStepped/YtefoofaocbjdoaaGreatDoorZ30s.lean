import Derived.Shelf.Strings.OnBuilder
import Derived.Shelf.Strings.Builder1
import Derived.Shelf.Strings.BuilderF
import Derived.Shelf.Strconv.Itoa4
import Derived.Shelf.Strconv.Clone
import Derived.Shelf.LaysM
import Derived.Shelf.Lays
import Derived.Ground.NamesProg
import Derived.Lib.AppendIntMem
import Derived.Test.YtefoofaocbjdoaaGreatDoorZ29s
set_option maxRecDepth 100000
set_option maxHeartbeats 16000000
namespace Go.Proofs.YtefoofaocbjdoaaGreatDoor
open Go Go.RowKit Go.Deep Go.Maps Go.BigFrame Go.Shelf Go.Proofs.Tryz
theorem Cn(w:World){B:Nat}(E:Nat->Addr)(hB:B<=w.heap.size)(c:Int)(hc:c≠0)(i:Nat)(h0:i≠0)(h1:i<14)(h3:i≠3){r:Nat}(hr:w.heap.size=r):Told (w.alloc (.cells #[.int .i64 c,.iface 257 (.pointer (some (E i)))] 54)) B E (.iface 49 (.pointer r)) c:=by
 subst hr;exact .inr ⟨hc,_,i,rfl,Ah.new w _,h0,h1,h3,hB⟩
theorem UZ{k:Int}(h:k≠1):Et k=179∨Et k=181∨Et k=183:=by
 unfold Et;rw[if_neg h];split
 ·exact .inl rfl
 ·split
  ·exact .inr (.inl rfl)
  ·exact .inr (.inr rfl)
theorem TF(E:Nat->Addr)(w:World)(B P:Nat)(s:Al)(g ca q co:Nat)(lt:List Ae)(lo:List Ab)(t c C:Nat)(nb:Nat->Nat)(kv:Nat->Value)(K:Nat->List Int)(h:Ew w B P s g ca q co lt lo t (.map (some c)))(hN:DW w C c lo.length (fun i=>(Aa lo i).id) q 0 nb kv K)(he:Ks w E)(h14:14<=B)(hB:B<=w.heap.size)(ht:t<lt.length)(X:Ae)(hX:X=lt[t])(u:Nat)(hu:u<lo.length)(O:Ab)(hO:O=lo[u])(hd:∀x∈lo,x.data.size<=maxLen)(hto:(Lit.int .i64 s.to).wf=true)
 (CH:∀p,p<lo.length->∀W,Below w w W->Calls prog 114 #[.agg X,.agg #[.int .i64 (Aa lo p).b1,.slice (Aa lo p).c1.a (Aa lo p).c1.n (Aa lo p).c1.k]] W fun e w'=>e= .returned (.bool (Ap X (Aa lo p).b1 (Aa lo p).c1))/\Below W W w'):
 Calls prog 140 #[.pointer P,.agg #[.pointer (some ⟨q,u*10,none⟩)]] w fun e w'=>∃v,e= .returned v/\∃(c':Int) (lo':List Ab),Ew w' B P s g ca q co lt lo' t (.map (some c))/\Below B w w'/\Told w' B E v c'/\((Hf lo s.to=none/\c'=4/\lo'=lo)∨∃p,Hf lo s.to=some p/\((((Aa lo p).kind≠1∨Ap X (Aa lo p).b1 (Aa lo p).c1=false)/\c'=4/\lo'=lo)∨((Aa lo p).kind=1/\Ap X (Aa lo p).b1 (Aa lo p).c1=true/\c'=0/\lo'=(lo.set p ⟨(Aa lo p).id,(Aa lo p).kind,(Aa lo p).up,(Aa lo p).b1,(Aa lo p).c1,O.data,(Aa lo p).jA,(Aa lo p).own,(Aa lo p).b2,(Aa lo p).c2⟩)))):=by
 obtain⟨CW,gl⟩:=h.st.jJ ht;rw[<-hX]at CW;obtain⟨CO,ql⟩:=h.st.jF hu hd;rw[<-hO]at CO;have n2:Nw (w.alloc (.cells #[.pointer (some ⟨q,u*10,none⟩)] 177)):=⟨⟩;have b0:Below w w n2:=Be w _;have c0:(n2:World).cell? ⟨w,0,none⟩=some (.pointer (some ⟨q,u*10,none⟩)):=by go_simp
 obtain⟨⟨k0,k1,k2,k3,k4,k5,k6,k7,k8,k9⟩,k10,k11,k12,k13⟩:=(h.wk.below b0).jZ;have HW:=hid h;have HE:=hid he;have HCH:=hid CH;have B0:=hid b0;have TH:=hid (IZ n2 B P s g ca q co lt lo t c C lo.length _ nb kv K (h.below b0) (hN.below b0) nr hd s.to hto);have n6:No (.cells (If s g lt.length ca q lo.length co t (.map (some c))) 91):=⟨⟩;have BX:Hid (∀W,Below (n2:World).heap.size n2 W->Ah W P n6/\Fg W g (t*7) X/\CZ W q (u*10) O/\W.cell? ⟨w,0,none⟩=some (.pointer (some ⟨q,u*10,none⟩))):=hid (fun W hW=>⟨(HW.out.wk.below B0).below hW,(CW.below gl B0).below (Nat.lt_of_lt_of_le gl B0.out.size) hW,(CO.below ql B0).below (Nat.lt_of_lt_of_le ql B0.out.size) hW,(hW.cell (p:=⟨w,0,none⟩) (by simp)).trans c0⟩);have HD:=hid hd;have wl:w.heap.size<(n2:World).heap.size:=by simp
 clear h he CH b0 hN hX hO CW CO hd;go_enter func140,ntmps140
 go_wp2_with fail
 refine TH.out.mono ?_;rintro e w1 ⟨hr,b1⟩;have V1:=hid b1;have A1:=hid (Af B0 b1);have H1:=hid (HW.out.below A1);clear TH b1 k0 k1 k2 k3 k4 k5 k6 k7 k8 k9 k10 k11 k12 k13 c0;rcases hr with⟨hf,rfl⟩|⟨p,hf,rfl⟩
 ·have HF:Hid (Hf lo s.to=none):=hid hf;clear hf;have a0:=Zw 172 w1;have n9:Nw (w1.alloc (.cells #[.pointer none] 177)):=⟨⟩;have b2:Below w1 w1 n9:=Be w1 _;have A2:=hid (Af A1 b2);have e6:=(HE.out.below h14 (A2.out.mono hB) 6 (by omega) (by omega)).1;have sz:B<=(n9:World).heap.size:=Nat.le_trans hB A2.out.size;go_wp2_with fail
  refine(Bq 257 (.pointer (some (E 6))) _).mono ?_;rintro e w9 ⟨rfl,rfl⟩;go_wp2;go_ret;have b3:=Af A2 (Be _ (.cells #[.int .i64 4,.iface 257 (.pointer (some (E 6)))] 54));exact⟨_,rfl,4,lo,HW.out.below b3,b3.mono hB,Cn _ E sz 4 (by decide) 6 (by decide) (by decide) (by decide) (by first|rfl|simp),.inl ⟨HF,rfl,rfl⟩⟩
 ·have HF:Hid (Hf lo s.to=some p):=hid hf;obtain⟨hp,_⟩:=AE hf;have eo:lo[p]'hp=Aa lo p:=by simp[Aa,hp]
  have HP:=hid eo;clear hf eo;by_cases h1:(Aa lo p).kind=1
  ·have ty:Et (Aa lo p).kind=177:=(by rw[h1];rfl);rw[ty];have H1':=hid h1;clear ty h1;have n4:Na #[.pointer (some ⟨q,p*10,none⟩)]:=⟨⟩;have a0:=QA 172 (.agg n4) w1;have n1:Nw (w1.alloc (.cells n4 177)):=⟨⟩;have b2:Below w1 w1 n1:=Be w1 _;have V2:=hid (Af V1 b2);have A2:=hid (Af A1 b2);have H2:=hid (HW.out.below A2);have d0:(n1:World).cell? ⟨w1,0,none⟩=some (.pointer (some ⟨q,p*10,none⟩)):=(by go_simp);clear b2;go_upto_region 4 with fail
   have D0:=hid (Below.refl (n1:World).heap.size n1).drew;have BY:Hid (∀W,Below (n1:World).heap.size n1 W->Ah W P n6/\Fg W g (t*7) X/\CZ W q (p*10) (Aa lo p)/\W.cell? ⟨w1,0,none⟩=some (.pointer (some ⟨q,p*10,none⟩))):=hid (fun W hW=>⟨(BX W (Af V2 hW)).1,(BX W (Af V2 hW)).2.1,by
    have:=((H2.out.below hW).st.jF hp HD).1;rw[HP.out]at this;exact this,(hW.cell (p:=⟨w1,0,none⟩) (by simp)).trans d0⟩)
   have ql2:∀W,Below (n1:World).heap.size n1 W->q<W.heap.size:=fun W hW=>((H2.out.below hW).st.jF hp HD).2;have EL:Hid (∀args w,(callFunc 134 args).run prog w= .ok (.enter 134 args) w):=hid (enters_of func134 (by kernel_rfl) rfl);have EC:Hid (∀args w,(callFunc 114 args).run prog w= .ok (.enter 114 args) w):=hid (enters_of func114 (by kernel_rfl) rfl);have n5:Na #[.int .i64 (Aa lo p).b1,.slice (Aa lo p).c1.a (Aa lo p).c1.n (Aa lo p).c1.k]:=⟨⟩;have P1:Hid (Calls prog 134 #[.agg n4] (n1:World).drew fun e w'=>∃v,e= .returned v/\(v= .agg n5/\Below (n1:World).drew.heap.size (n1:World).drew w')):=hid ((Lp q (p*10) (Aa lo p).b1 (Aa lo p).c1 (n1:World).drew (ql2 _ D0) (BY _ D0).2.2.1.c3 (BY _ D0).2.2.1.c4).mono fun _ _ h=>⟨_,h.1,rfl,h.2⟩);refine Am 11 (fun W=>Below (n1:World).heap.size n1 W) (by kernel_rfl) ?_;have n8:Nv (.pointer P):=⟨⟩;refine tr 0 22 n8 D0 ?_;refine tr 1 23 n8 D0 ?_;refine tr 2 24 (.pointer (some ⟨P,12,none⟩)) D0 ?_;have n7:Nv (.pointer (some ⟨g,t*7,none⟩)):=⟨⟩;refine tr 3 25 n7 D0 ?_ (hy:=fun W h=>by obtain⟨⟨k0,k1,k2,k3,k4,k5,k6,k7,k8,k9⟩,k10,k11,k12,k13⟩:=(BY W h).1.jZ;go_simp);refine tr 4 26 n7 D0 ?_;have n3:Na X:=⟨⟩;refine tr 5 27 (.agg n3) D0 ?_ (hy:=fun W h=>by have C:=(BY W h).2.1;have y0:=C.c0;have y1:=C.c1;have y2:W.cell? ⟨g,t*7+2,none⟩=some (.slice X.c1.a X.c1.n X.c1.k):=C.c2;have y3:=C.c3;have y4:W.cell? ⟨g,t*7+4,none⟩=some (.slice X.c2.a X.c2.n X.c2.k):=C.c4;have y5:W.cell? ⟨g,t*7+5,none⟩=some (.slice X.own.a X.own.n X.own.k):=C.c5;have y6:=C.c6;go_simp);refine tr 6 28 (.pointer (w1)) D0 ?_;refine tr 7 29 (.agg n4) D0 ?_ (hy:=fun W h=>by have y:=(BY W h).2.2.2;go_simp);refine Ac (i:=8) (by kernel_rfl) rfl ?_;intro K hK;refine Ao (by rfl) 134 _ _ (by rfl) EL _ (by rfl) (some 30) (by rfl) _ P1 ?_;rintro v w3 ⟨rfl,b3⟩;have V3:=hid (Af D0 b3);refine hK _ _ (fun _=>V3) ?_;clear hK K b3 P1;simp only[ap,List.set];have P2:Hid (Calls prog 114 #[.agg n3,.agg n5] w3 fun e w'=>∃v,e= .returned v/\(v= .bool (Ap X (Aa lo p).b1 (Aa lo p).c1)/\Below w3 w3 w')):=hid ((HCH p hp _ (Af A2 V3)).mono fun _ _ h=>⟨_,h.1,rfl,h.2⟩);refine Ac (i:=9) (by kernel_rfl) rfl ?_;intro K hK;refine AJ (by rfl) 114 _ _ _ (by rfl) EC _ _ (by rfl) (by rfl) (some 31) (by rfl) _ P2 ?_;rintro v w4 ⟨rfl,b4⟩;have V4:=hid (Af V3 b4);refine hK _ _ (fun _=>V4) ?_;clear hK K b4 P2;simp only[ap,List.set];refine tr 10 32 (.bool (!Ap X (Aa lo p).b1 (Aa lo p).c1)) V4 ?_;refine Ai (by kernel_rfl) ?_ _;have A4:=hid (Af A2 V4);have sz:B<=w4.heap.size:=Nat.le_trans hB A4.out.size;cases hc:Ap X (Aa lo p).b1 (Aa lo p).c1 with
   |false=>
    have e8:=(HE.out.below h14 (A4.out.mono hB) 8 (by omega) (by omega)).1;go_wp2_with fail
    refine(Bq 257 (.pointer (some (E 8))) _).mono ?_;rintro e w9 ⟨rfl,rfl⟩;go_wp2;go_ret;have b3:=Af A4 (Be _ (.cells #[.int .i64 4,.iface 257 (.pointer (some (E 8)))] 54));exact⟨_,rfl,4,lo,HW.out.below b3,b3.mono hB,Cn _ E sz 4 (by decide) 8 (by decide) (by decide) (by decide) (by first|rfl|simp),.inr ⟨p,HF,.inl ⟨.inr hc,rfl,rfl⟩⟩⟩
   |true=>
    have HC:=hid hc;clear hc;have W4:=hid (HW.out.below A4);have WD:=hid (W4.out.below (Below.refl _ w4).drew);obtain⟨S1,hg,cur,hcu⟩:=WD.out.setData (d:=O.data) hp HP.out.symm;have S1':=hid S1;have gf:=hcu.jC;have B5:=hid (((A4.out.drew).mono hB).setCell (p:=⟨q,p*10+5,none⟩) hg (.string O.data));have y0:w4.drew.cell? ⟨w1,0,none⟩=some (.pointer (some ⟨q,p*10,none⟩)):=(BY _ V4).2.2.2;have y1:w4.drew.cell? ⟨w,0,none⟩=some (.pointer (some ⟨q,u*10,none⟩)):=(BX _ (Af V2 V4)).2.2.2;have y2:w4.drew.cell? ⟨q,u*10+5,none⟩=some (.string O.data):=(BX _ (Af V2 V4)).2.2.1.c5;have y3:w4.drew.cell? ⟨q,p*10+5,none⟩=some (.string (Aa lo p).data):=(BY _ V4).2.2.1.c5;clear S1 d0;go_upto_region 6 with fail
    go_region_law fail
    all_goals(
     go_wp2;go_ret;exact⟨_,rfl,0,_,S1',B5,.inl ⟨rfl,rfl⟩,.inr ⟨p,HF,.inr ⟨H1',HC,rfl,rfl⟩⟩⟩)
  ·have h2:∃ty,Et (Aa lo p).kind=ty/\(ty=179∨ty=181∨ty=183):=⟨_,rfl,UZ h1⟩;obtain⟨ty,e1,e2⟩:=h2;rw[e1];have HK:=hid h1;have n10:Nw (w1.alloc (.cells #[.pointer none] 177)):=⟨⟩;have b2:Below w1 w1 n10:=Be w1 _;have A2:=hid (Af A1 b2);have e6:=(HE.out.below h14 (A2.out.mono hB) 6 (by omega) (by omega)).1;have sz:B<=(n10:World).heap.size:=Nat.le_trans hB A2.out.size;have a0:=QY 172 ty (.agg #[.pointer (some ⟨q,p*10,none⟩)]) w1 (by rcases e2 with rfl|rfl|rfl<;>decide);clear e1 h1 b2 e2
   (
    go_wp2_with fail
    refine(Bq 257 (.pointer (some (E 6))) _).mono ?_;rintro e w9 ⟨rfl,rfl⟩;go_wp2;go_ret;have b3:=Af A2 (Be _ (.cells #[.int .i64 4,.iface 257 (.pointer (some (E 6)))] 54));exact⟨_,rfl,4,lo,HW.out.below b3,b3.mono hB,Cn _ E sz 4 (by decide) 6 (by decide) (by decide) (by decide) (by first|rfl|simp),.inr ⟨p,HF,.inl ⟨.inl HK,rfl,rfl⟩⟩⟩)
variable {w:World}{B:Nat}{c:AF}
theorem OT(E:Nat->Addr)(w:World)(B P:Nat)(s:Al)(g ca q co:Nat)(lt:List Ae)(lo:List Ab)(t:Nat)(m:Value)(h:Ew w B P s g ca q co lt lo t m)(he:Ks w E)(h14:14<=B)(hB:B<=w.heap.size)(u:Nat)(hu:u<lo.length)(O:Ab)(hO:O=lo[u])(hd:∀x∈lo,x.data.size<=maxLen)(hk:s.kind=9)(hf:O.jA.n=8):
 Calls prog 125 #[.pointer P,.agg #[.pointer (some ⟨q,u*10,none⟩)]] w fun e w'=>∃v,e= .returned (.tuple #[.string ⟨#[]⟩,v])/\Below B w w'/\Told w' B E v 5/\Ew w' B P s g ca q co lt lo t m:=by
 obtain⟨CO,ql⟩:=h.st.jF hu hd;rw[<-hO]at CO;have n1:Nw (w.alloc (.cells #[.pointer (some ⟨q,u*10,none⟩)] 179)):=⟨⟩;have b0:Below w.heap.size w n1:=Be w _;have c0:(n1:World).cell? ⟨w.heap.size,0,none⟩=some (.pointer (some ⟨q,u*10,none⟩)):=by go_simp
 obtain⟨⟨k0,k1,k2,k3,k4,k5,k6,k7,k8,k9⟩,k10,k11,k12,k13⟩:=(h.wk.below b0).jZ;have y6:(n1:World).cell? ⟨q,u*10+6,none⟩=some (.slice O.jA.a O.jA.n O.jA.k):=(CO.below ql b0).c6;have HA:=hid (h.below b0);have B0:=hid b0;have HE:=hid he;have HO:=hid hO;have ON:=hid (show O.new B w by rw[hO];exact h.st.on _ (List.getElem_mem hu));have OC:=hid (show O.jA.n<=O.jA.k/\O.jA.k<=maxLen by rw[hO];exact h.st.oc _ (List.getElem_mem hu));rw[hk]at k1;rw[hf]at y6;have e5:=(HE.out.below h14 (B0.out.mono hB) 12 (by omega) (by omega)).1;have sz:B<=(n1:World).heap.size:=Nat.le_trans hB B0.out.size;clear h he hO CO b0 hk hf;go_enter func125,ntmps125
 go_wp2_with fail
 refine(CR 5 257 (.pointer (some (E 12))) _).mono ?_;rintro e w9 ⟨rfl,rfl⟩;go_wp2;go_ret2;have b3:=Af B0.out (Be _ (.cells #[.int .i64 5,.iface 257 (.pointer (some (E 12)))] 54));exact⟨_,rfl,b3.mono hB,Cn _ E sz 5 (by decide) 12 (by decide) (by decide) (by decide) (by first|rfl|simp),HA.out.below (Be _ _)⟩
theorem OY(E:Nat->Addr)(w:World)(B P:Nat)(s:Al)(g ca q co:Nat)(lt:List Ae)(lo:List Ab)(t:Nat)(m:Value)(h:Ew w B P s g ca q co lt lo t m)(he:Ks w E)(h14:14<=B)(hB:B<=w.heap.size)(u:Nat)(hu:u<lo.length)(O:Ab)(hO:O=lo[u])(hd:∀x∈lo,x.data.size<=maxLen)(hk:s.kind=10)(hf:O.jA.n=0):
 Calls prog 125 #[.pointer P,.agg #[.pointer (some ⟨q,u*10,none⟩)]] w fun e w'=>∃v,e= .returned (.tuple #[.string ⟨#[]⟩,v])/\Below B w w'/\Told w' B E v 6/\Ew w' B P s g ca q co lt lo t m:=by
 obtain⟨CO,ql⟩:=h.st.jF hu hd;rw[<-hO]at CO;have n1:Nw (w.alloc (.cells #[.pointer (some ⟨q,u*10,none⟩)] 179)):=⟨⟩;have b0:Below w.heap.size w n1:=Be w _;have c0:(n1:World).cell? ⟨w.heap.size,0,none⟩=some (.pointer (some ⟨q,u*10,none⟩)):=by go_simp
 obtain⟨⟨k0,k1,k2,k3,k4,k5,k6,k7,k8,k9⟩,k10,k11,k12,k13⟩:=(h.wk.below b0).jZ;have y6:(n1:World).cell? ⟨q,u*10+6,none⟩=some (.slice O.jA.a O.jA.n O.jA.k):=(CO.below ql b0).c6;have HA:=hid (h.below b0);have B0:=hid b0;have HE:=hid he;have HO:=hid hO;have ON:=hid (show O.new B w by rw[hO];exact h.st.on _ (List.getElem_mem hu));have OC:=hid (show O.jA.n<=O.jA.k/\O.jA.k<=maxLen by rw[hO];exact h.st.oc _ (List.getElem_mem hu));rw[hk]at k1;rw[hf]at y6;have e5:=(HE.out.below h14 (B0.out.mono hB) 13 (by omega) (by omega)).1;have sz:B<=(n1:World).heap.size:=Nat.le_trans hB B0.out.size;clear h he hO CO b0 hk hf;go_enter func125,ntmps125
 go_wp2_with fail
 refine(CR 6 257 (.pointer (some (E 13))) _).mono ?_;rintro e w9 ⟨rfl,rfl⟩;go_wp2;go_ret2;have b3:=Af B0.out (Be _ (.cells #[.int .i64 6,.iface 257 (.pointer (some (E 13)))] 54));exact⟨_,rfl,b3.mono hB,Cn _ E sz 6 (by decide) 13 (by decide) (by decide) (by decide) (by first|rfl|simp),HA.out.below (Be _ _)⟩
theorem WH(h:c.new B w)(hk:c.n<=c.k/\c.k<=maxLen)(ht:c.tight):FC w B (.slice c.a c.n c.k) c.n c.f:=by
 refine⟨by simp[Jg],?_⟩;by_cases h0:0<c.n
 ·obtain⟨b,m,F,e,h1,⟨h2,rfl⟩,cur,hc,hs,hF⟩:=h.2 h0;obtain⟨b',off,e',hlt,hcc⟩:=h.1.2.1 h0;rw[e]at e';cases e';refine .inr ⟨b,c.k,cur,by rw[e],h1,hc,hk.1,hk.2,by rw[hs,Nat.mul_one],?_⟩;refine List.ext_getElem? (fun i=>?_);rw[Nat.mul_one];by_cases hi:i<c.n
  ·have hv:=hcc i hi;simp only[World.cell?,hc]at hv;rw[List.getElem?_take_of_lt hi];simp[Jg,hi];simpa using hv
  ·rw[List.getElem?_eq_none (by simp;omega),List.getElem?_eq_none (by simp[Jg];omega)]
 ·obtain⟨e1,e2⟩:=ht (by omega);have e3:c.n=0:=by omega
  exact .inl ⟨by rw[e1,e2,e3],e3⟩
theorem Lh(h:c.new B w)(ht:c.tight):∀b,(Value.slice c.a c.n c.k).ownBlock=some b->b∈c.bs/\∃m F,w.rowIs b 9 m F:=fun b e=>by
 by_cases h0:0<c.n
 ·obtain⟨b',m,F,e',h1,_,hr⟩:=h.2 h0;rw[e']at e;simp only[Value.ownBlock,Option.some.injEq]at e;subst e;exact⟨by unfold AF.bs;rw[if_pos h0,e'];simp,m,F,hr⟩
 ·obtain⟨e1,e2⟩:=ht (by omega);rw[e1]at e;cases e
theorem LY{ops:Array Oper}{o:Oper}{a:Act}{w:World}{K:Act->World->Prop}{Q:Exit->Act->World->Prop}{E:Prop}(hgd:o.guard=none)(s x:Operand)
 (ho:o.op= .call {callee:= .builtin .append,args:=#[s,x],argTypes:=#[61,61]})
 (B:Nat)(v:Value)(n:Nat)(f:Nat->ByteArray)(hs:a.eval s=v)(hown:FC w B v n f)(ad:Option Addr)(c:Nat)(y:ByteArray)(hx:a.eval x= .slice ad 1 c)(hc:Bp w ad 1 [.string y])
 (hm:n<=1048576)(hB:B<=w.heap.size)(d:Option Nat)(hd:o.dst=d)
 (h:∀a' c' w',FC w' B (.slice a' (n+1) c') (n+1) (Dl n f y)->w.grownBy w' v.ownBlock->((Value.slice a' (n+1) c').ownBlock=v.ownBlock∨(Value.slice a' (n+1) c').ownBlock=some w.heap.size)->K (a.put d (.slice a' (n+1) c')) w'):
 if Region.wanted o (yielded ops a.tmps)=true then Oper.wp prog o a w K Q else E:=by
 have hw:Region.wanted o (yielded ops a.tmps)=true:=by simp[Region.wanted,hgd]
 rw[if_pos hw];refine Ds underlying61 Tryz.info9 rfl (by omega) w s x ho B v n (Jg n f) hs hown ad 1 c [.string y] hx rfl hc (fun u hu=>by simp at hu;subst hu;rfl) (by omega) (by omega) hB fun a' c' w' h2 h3 h4=>?_;rw[<-Py]at h2;rw[hd];exact h a' c' w' h2 h3 h4
theorem Qq(w:World)(B P:Nat)(s:Al)(g ca q co:Nat)(lt:List Ae)(lo:List Ab)(t:Nat)(m:Value)(h:Ew w B P s g ca q co lt lo t m)(hB:B<=w.heap.size)(u:Nat)(hu:u<lo.length)(O:Ab)(hO:O=lo[u])(hd:∀x∈lo,x.data.size<=maxLen)(hk:s.kind=9)(hf:O.jA.n≠8)(hl:O.jA.n<=1000)(ht:O.jA.tight)(hsd:s.data.size<=maxLen):
 Calls prog 125 #[.pointer P,.agg #[.pointer (some ⟨q,u*10,none⟩)]] w fun e w'=>∃(a:Option Addr) (cc:Nat),e= .returned (.tuple #[.string ⟨#[]⟩,.nilIface])/\Ew w' B P s g ca q co lt (lo.set u ⟨O.id,O.kind,O.up,O.b1,O.c1,O.data,⟨a,O.jA.n+1,cc,Dl O.jA.n O.jA.f s.data⟩,O.own,O.b2,O.c2⟩) t m/\Below B w w':=by
 obtain⟨CO,ql⟩:=h.st.jF hu hd;rw[<-hO]at CO;have n1:Nw (w.alloc (.cells #[.pointer (some ⟨q,u*10,none⟩)] 179)):=⟨⟩;have b0:Below w.heap.size w n1:=Be w _;have n5:Nv (.pointer (some ⟨q,u*10,none⟩)):=⟨⟩;have c0:(n1:World).cell? ⟨w.heap.size,0,none⟩=some (.pointer (some ⟨q,u*10,none⟩)):=by go_simp
 obtain⟨⟨k0,k1,k2,k3,k4,k5,k6,k7,k8,k9⟩,k10,k11,k12,k13⟩:=(h.wk.below b0).jZ;have y6:(n1:World).cell? ⟨q,u*10+6,none⟩=some (.slice O.jA.a O.jA.n O.jA.k):=(CO.below ql b0).c6;have HA:=hid (h.below b0);have B0:=hid b0;have HO:=hid hO;have ON:=hid (show O.new B w by rw[hO];exact h.st.on _ (List.getElem_mem hu));have OC:=hid (show O.jA.n<=O.jA.k/\O.jA.k<=maxLen by rw[hO];exact h.st.oc _ (List.getElem_mem hu));rw[hk]at k1;have f1:¬(O.jA.n:Int)=8:=by omega
 have f2:((O.jA.n:Int)==8)=false:=by simpa using f1
 have n2:No (.cells (If s g lt.length ca q lo.length co t m) 91):=⟨⟩;have Z1:Hid ((fun W=>Ah W P n2/\W.cell? ⟨w.heap.size,0,none⟩=some (.pointer (some ⟨q,u*10,none⟩))/\W.cell? ⟨q,u*10+6,none⟩=some (.slice O.jA.a O.jA.n O.jA.k)) (n1:World).drew):=hid ⟨HA.out.wk,c0,y6⟩;have n4:No (.cells #[.string s.data] 9):=⟨⟩;have BA:Below (n1:World).heap.size n1 ((n1:World).alloc n4).drew:=(Be n1 _).drew;have ql1:q<(n1:World).heap.size:=Nat.lt_of_lt_of_le ql b0.size;have ZA:Hid ((fun W=>Ah W P n2/\W.cell? ⟨w.heap.size,0,none⟩=some (.pointer (some ⟨q,u*10,none⟩))/\W.cell? ⟨q,u*10+6,none⟩=some (.slice O.jA.a O.jA.n O.jA.k)) ((n1:World).alloc n4).drew):=hid ⟨HA.out.wk.below BA,(BA.cell (p:=⟨w.heap.size,0,none⟩) (by simp)).trans c0,(BA.cell (p:=⟨q,u*10+6,none⟩) ql1).trans y6⟩;have SA:=hid (HA.out.below BA);have BB:=hid (Af B0.out BA);have NA:=hid (ON.out.2.1.below BB.out);have LA:Hid (Bp ((n1:World).alloc n4).drew (some ⟨w.heap.size+1,0,none⟩) 1 [.string s.data]):=hid (by have h:=I3 n1 s.data;rw[show(n1:World).heap.size=w.heap.size+1 from by simp]at h;exact h);have HT:=hid ht;clear h hO CO b0 hk hf;go_enter func125,ntmps125
 go_upto_region 4 with fail
 refine Am 18 (fun W=>Ah W P n2/\W.cell? ⟨w.heap.size,0,none⟩=some (.pointer (some ⟨q,u*10,none⟩))/\W.cell? ⟨q,u*10+6,none⟩=some (.slice O.jA.a O.jA.n O.jA.k)) (by kernel_rfl) ?_;have n3:Nv (.pointer (w.heap.size)):=⟨⟩;refine tr 0 23 n3 Z1.out ?_;refine tr 1 24 n3 Z1.out ?_;refine tr 2 25 n5 Z1.out ?_ (hy:=fun W h=>by have y:=h.2.1;go_simp);refine tr 3 26 n3 Z1.out ?_;refine tr 4 27 n3 Z1.out ?_;refine tr 5 28 n5 Z1.out ?_ (hy:=fun W h=>by have y:=h.2.1;go_simp);refine tr 6 29 n5 Z1.out ?_;refine tr 7 30 (.pointer (some ⟨q,u*10+6,none⟩)) Z1.out ?_;refine tr 8 31 (.slice O.jA.a O.jA.n O.jA.k) Z1.out ?_ (hy:=fun W h=>by have y:=h.2.2;go_simp);have n6:Nv (.pointer P):=⟨⟩;refine tr 9 32 n6 Z1.out ?_;refine tr 10 33 n6 Z1.out ?_;refine tr 11 34 n6 Z1.out ?_;refine tr 12 35 (.pointer (some ⟨P,5,none⟩)) Z1.out ?_;refine tr 13 36 (.string s.data) Z1.out ?_ (hy:=fun W h=>by obtain⟨⟨k0,k1,k2,k3,k4,k5,k6,k7,k8,k9⟩,k10,k11,k12,k13⟩:=h.1.jZ;go_simp);refine Ac (i:=14) (by kernel_rfl) rfl ?_;intro K hK;go_simp;refine hK.out _ _ (fun _=>ZA.out) ?_;clear hK K;try simp only[ap,List.set]
 refine Ac (i:=15) (by kernel_rfl) rfl ?_;intro K hK;refine LY (by rfl) _ _ (by rfl) B _ O.jA.n O.jA.f (by rfl) (WH NA.out OC.out HT.out) (some ⟨w.heap.size+1,0,none⟩) 1 s.data (by rfl) LA.out (by omega) (Nat.le_trans hB BB.out.size) (some 38) (by rfl) ?_;intro a3 c3 w3 o3 g3 e3;have NL:=FC.newL o3 (by omega) (fun i hi=>by unfold Dl;split;exact NA.out.1.2.2 i (by assumption);exact hsd);obtain⟨S4,⟨cur,hcu⟩,hBq,wk3,rw3⟩:=SA.out.itemRow hu HO.out (Lh NA.out HT.out) g3 (d:=⟨a3,O.jA.n+1,c3,Dl O.jA.n O.jA.f s.data⟩) NL.1 NL.2 (fun b hb=>by
  unfold AF.bs at hb;simp only[Nat.zero_lt_succ,if_true]at hb;rcases e3 with e|e
  ·refine .inl (Lh NA.out HT.out b ?_).1;rw[<-e];cases a3 with
   |none=>cases hb
   |some p=>simp at hb;rw[hb];rfl
  ·refine .inr ?_;cases a3 with
   |none=>cases hb
   |some p=>simp at hb;subst hb;simp only[Value.ownBlock,Option.some.injEq]at e;rw[e];exact Nat.le_refl _)
 have n7:Nw ((w.alloc (.cells #[.pointer (some ⟨q,u*10,none⟩)] 179)).alloc n4):=⟨⟩;have gq:∀P',P'<(n7:World).drew.heap.size->P'≠P'∨((Value.slice O.jA.a O.jA.n O.jA.k).ownBlock≠some P')->w3.heap[P']? =(n7:World).drew.heap[P']?:=fun P' h1 h2=>g3.block P' h1 (fun e=>by rcases h2 with h2|h2;exact h2 rfl;exact h2 e.symm);have c6:w3.cell? ⟨q,u*10+6,none⟩=some (.slice O.jA.a O.jA.n O.jA.k):=(World.cell?_of_block (a:=⟨q,u*10+6,none⟩) (gq q (Nat.lt_of_lt_of_le ql1 BA.size) (.inr fun e=>(rw3 q e).2.1 rfl))).trans ZA.out.2.2;have hH:w.heap.size<B∨B<=w.heap.size:=by omega
 have cH:w3.cell? ⟨w.heap.size,0,none⟩=some (.pointer (some ⟨q,u*10,none⟩)):=(World.cell?_of_block (a:=⟨w.heap.size,0,none⟩) (gq w.heap.size (Nat.lt_of_lt_of_le (by simp) BA.size) (.inr fun e=>by
  have:=(ON.out.2.1.bs.2 _ (Lh NA.out HT.out _ e).1).2;omega))).trans ZA.out.2.1
 have Z3:Hid ((fun W=>Ah W P n2/\W.cell? ⟨w.heap.size,0,none⟩=some (.pointer (some ⟨q,u*10,none⟩))/\W.cell? ⟨q,u*10+6,none⟩=some (.slice O.jA.a O.jA.n O.jA.k)) w3):=hid ⟨wk3,cH,c6⟩;have S4':=hid S4;have gf:=hcu.jC;have B3:Hid (Below B w w3):=hid ((BB.out.mono hB).trans (below_grown g3 (Nat.le_trans hB BB.out.size) (fun j e=>(rw3 j e).1)));have KK:=hK;refine KK.out _ _ (fun _=>Z3.out) ?_;clear hK KK K S4 NL o3 g3 e3 wk3 rw3 gq cH hH;simp only[ap,List.set];refine Ac (i:=16) (by kernel_rfl) rfl ?_;intro K hK;go_simp;refine hK.out _ _ (fun _=>Z3.out) ?_;clear hK K;try simp only[ap,List.set]
 refine Ac (i:=17) (by kernel_rfl) rfl ?_;intro K hK;go_simp;refine hK.out _ _ (fun _=>Z3.out) ?_;clear hK K;try simp only[ap,List.set]
 refine Ac (i:=18) (by kernel_rfl) rfl ?_;intro K hK;go_simp;refine hK.out _ _ (fun h=>absurd h (by decide)) ?_;clear hK K;try simp only[Act.put]
 refine Ai (by kernel_rfl) ?_ _;have B4:=hid (B3.out.setCell (p:=⟨q,u*10+6,none⟩) hBq (.slice a3 (O.jA.n+1) c3));go_wp2;go_ret2;exact⟨rfl,⟨a3,c3,S4'.out⟩,B4.out⟩
theorem Ew.takeF{wr:World}{P:Nat}{s:Al}{g ca q co:Nat}{lt:List Ae}{lo:List Ab}{t:Nat}{m:Value}(h:Ew wr B P s g ca q co lt lo t m){u b:Nat}(hu:u<lo.length){O:Ab}(hO:O=lo[u])(hn:O.jA.n≠0)(hb:O.jA.a=some ⟨b,0,none⟩){o kk:Nat}(hok:O.jA.n=1∨o=1):
 Nc (wr.setCell ⟨q,u*10+6,none⟩ (.slice (some ⟨b,o,none⟩) (O.jA.n-1) kk)) B P s g ca q co lt (lo.set u ⟨O.id,O.kind,O.up,O.b1,O.c1,O.data,⟨some ⟨b,o,none⟩,O.jA.n-1,kk,fun i=>O.jA.f (i+1)⟩,O.own,O.b2,O.c2⟩) t m/\B<=q/\∃cur,Ah wr q (.cells cur 63):=by
 have ho:=h.st.o;obtain⟨cur,hcur⟩:∃cur,Ah wr q (.cells cur 63):=by
  rcases ho.2 with⟨hv,_⟩|⟨g',cap,cur,hv,_,hgg,_⟩
  ·cases hv
  ·cases hv;exact⟨cur,hgg⟩
 have hBg:B<=q:=(World.ownsRow.lt ho q rfl).1;have el:(lo.set u (⟨O.id,O.kind,O.up,O.b1,O.c1,O.data,⟨some ⟨b,o,none⟩,O.jA.n-1,kk,fun i=>O.jA.f (i+1)⟩,O.own,O.b2,O.c2⟩:Ab)).length=lo.length:=by simp
 have n1:Nv (.slice (some ⟨b,o,none⟩) (O.jA.n-1) kk):=⟨⟩;have kl:=As (i:=u*10+6) hcur (by decide) n1;have ho':=(World.ownsRow.stored ho (u*10+6) n1).1;have hx:=h.st.on _ (List.getElem_mem hu);rw[<-hO]at hx;obtain⟨b',m',F,e',hB',hm',hr⟩:=hx.2.1.2 (by omega);rw[hb]at e';cases e';obtain⟨b'',off,e'',hlt,hcc⟩:=hx.2.1.1.2.1 (by omega);rw[hb]at e'';cases e'';have tn:(⟨some ⟨b,o,none⟩,O.jA.n-1,kk,fun i=>O.jA.f (i+1)⟩:AF).jH B wr:=by
  refine⟨⟨by have:=hx.2.1.1.1;show O.jA.n-1<=maxLen;omega,fun h0=>⟨b,o,rfl,hlt,fun i hi=>?_⟩,fun i hi=>hx.2.1.1.2.2 (i+1) (by simp only at hi;omega)⟩,fun h0=>⟨b,o,m',F,rfl,hB',by simp only at h0 ⊢;omega,hr⟩⟩;have hi':i+1<O.jA.n:=by simp only at hi;omega
  have eo:o=1:=by omega
  subst eo;have:=hcc (i+1) hi';rw[show 1+i=0+(i+1) from by omega];exact this
 have bse:O.jA.bs=[b]:=by unfold AF.bs;rw[if_pos (by omega),hb]
 have tb:∀x∈(⟨some ⟨b,o,none⟩,O.jA.n-1,kk,fun i=>O.jA.f (i+1)⟩:AF).bs,x∈O.jA.bs:=fun x hx'=>by
  rw[bse];unfold AF.bs at hx';split at hx'
  ·exact hx'
  ·cases hx'
 have td:(⟨some ⟨b,o,none⟩,O.jA.n-1,kk,fun i=>O.jA.f (i+1)⟩:AF).bs.Nodup:=by
  unfold AF.bs;split
  ·simp
  ·simp
 have hn':O.cb.Nodup:=Dh (L:=lo.map Ab.cb) (S:=(lt.map Ae.cb).flatten) (t:=u) (by simp[hu,hO]) (List.perm_append_comm.nodup_iff.2 h.ap.c);have hi:O.own.bs.Nodup:=Dh (L:=lo.map fun x=>x.own.bs) (S:=(lt.map fun x=>x.own.bs).flatten) (t:=u) (by simp[hu,hO]) (List.perm_append_comm.nodup_iff.2 h.ap.i);have nq:∀x∈lo,∀b∈x.jA.bs,b≠q:=fun x hx2 b2 hb2 e=>by
  have hxx:=(h.st.on x hx2).2.1;unfold AF.bs at hb2;split at hb2
  ·rename_i h0;obtain⟨b3,m3,F3,e3,_,_,c3,hc3,_⟩:=hxx.2 h0;rw[e3]at hb2;have:=List.mem_singleton.1 hb2;simp only at this;subst this;have hq:=hcur;unfold Ah at hq;rw[<-e,hc3]at hq;simp at hq
  ·cases hb2
 have strF:∀{c:AF},c.jH B wr->(∀b∈c.bs,b≠q)->c.jH B (wr.setCell ⟨q,u*10+6,none⟩ (.slice (some ⟨b,o,none⟩) (O.jA.n-1) kk)):=fun{c} hc hne=>hc.of (by simp[World.setCell]) (fun b2 hb2=>Below.heap_setCell _ _ _ _ (fun(e:b2=q)=>hne b2 hb2 e));refine⟨⟨⟨h.st.t.set hcur (by decide) _,?_,fun y hy=>(h.st.tn y hy).keeps kl,fun y hy=>?_⟩,h.ap.setO h.st hu (x:=⟨O.id,O.kind,O.up,O.b1,O.c1,O.data,⟨some ⟨b,o,none⟩,O.jA.n-1,kk,fun i=>O.jA.f (i+1)⟩,O.own,O.b2,O.c2⟩) hn' (fun b hb=> .inl (by rw[<-hO];exact hb)) hi (fun b hb=> .inl (by rw[<-hO];exact hb)) td (fun b hb=> .inl (by rw[<-hO];exact tb b hb)),by rw[el];exact h.wk.other (Ne.symm h.setQ) _⟩,hBg,cur,hcur⟩
 ·unfold AO;have e:=Db (f:=Ab.cs) Ab.jK (l:=lo) (t:=u) (x:=(⟨O.id,O.kind,O.up,O.b1,O.c1,O.data,⟨some ⟨b,o,none⟩,O.jA.n-1,kk,fun i=>O.jA.f (i+1)⟩,O.own,O.b2,O.c2⟩:Ab)) (u:= .slice (some ⟨b,o,none⟩) (O.jA.n-1) kk) (i:=6) hu (by omega) (by rw[<-hO];rfl);rw[el];unfold Aw;rw[<-e];exact ho'
 ·obtain⟨j,hj,rfl⟩:=List.getElem_of_mem hy;rw[List.getElem_set];split
  ·exact⟨hx.1.keeps kl,strF tn (fun b2 hb2=>nq O (by rw[hO];exact List.getElem_mem hu) b2 (tb b2 hb2)),hx.2.2.1.keeps kl,hx.2.2.2.keeps kl⟩
  ·have hj':j<lo.length:=(by simpa using hj);have hy':=h.st.on _ (List.getElem_mem hj');exact⟨hy'.1.keeps kl,strF hy'.2.1.f (nq _ (List.getElem_mem hj')),hy'.2.2.1.keeps kl,hy'.2.2.2.keeps kl⟩
theorem Pp(w:World)(B P:Nat)(s:Al)(g ca q co:Nat)(lt:List Ae)(lo:List Ab)(t:Nat)(m:Value)(h:Ew w B P s g ca q co lt lo t m)(hB:B<=w.heap.size)(u:Nat)(hu:u<lo.length)(O:Ab)(hO:O=lo[u])(hd:∀x∈lo,x.data.size<=maxLen)(hk:s.kind=10)(hf:O.jA.n≠0)(hl:O.jA.n<=1000):
 Calls prog 125 #[.pointer P,.agg #[.pointer (some ⟨q,u*10,none⟩)]] w fun e w'=>e= .returned (.tuple #[.string (O.jA.f 0),.nilIface])/\(∃(a:Option Addr) (kk:Nat),Nc w' B P s g ca q co lt (lo.set u ⟨O.id,O.kind,O.up,O.b1,O.c1,O.data,⟨a,O.jA.n-1,kk,fun i=>O.jA.f (i+1)⟩,O.own,O.b2,O.c2⟩) t m)/\Below B w w':=by
 obtain⟨CO,ql⟩:=h.st.jF hu hd;rw[<-hO]at CO;have n7:Nw (w.alloc (.cells #[.pointer (some ⟨q,u*10,none⟩)] 179)):=⟨⟩;have b0:Below w.heap.size w n7:=Be w _;have c0:(n7:World).cell? ⟨w.heap.size,0,none⟩=some (.pointer (some ⟨q,u*10,none⟩)):=by go_simp
 obtain⟨⟨k0,k1,k2,k3,k4,k5,k6,k7,k8,k9⟩,k10,k11,k12,k13⟩:=(h.wk.below b0).jZ;have y6:(n7:World).cell? ⟨q,u*10+6,none⟩=some (.slice O.jA.a O.jA.n O.jA.k):=(CO.below ql b0).c6;have HA:=hid (h.below b0);have B0:=hid b0;have HO:=hid hO;have ON:=hid (show O.new B w by rw[hO];exact h.st.on _ (List.getElem_mem hu));have OC:=hid (show O.jA.n<=O.jA.k/\O.jA.k<=maxLen by rw[hO];exact h.st.oc _ (List.getElem_mem hu));rw[hk]at k1;have f1:¬(O.jA.n:Int)=0:=by omega
 have f2:((O.jA.n:Int)==0)=false:=by simpa using f1
 obtain⟨b,mm,F,ea,hb1,hb2,hr⟩:=ON.out.2.1.2 (by omega);obtain⟨b',off,ea',hlt,hcc⟩:=ON.out.2.1.1.2.1 (by omega);rw[ea]at ea';cases ea';have i0:(n7:World).cell? ⟨b,0,none⟩=some (.string (O.jA.f 0)):=(b0.cell (p:=⟨b,0,none⟩) hlt).trans (hcc 0 (by omega));rw[ea]at y6;have z0:(n7:World).drew.cell? ⟨w.heap.size,0,none⟩=some (.pointer (some ⟨q,u*10,none⟩)):=c0;have z6:(n7:World).drew.cell? ⟨q,u*10+6,none⟩=some (.slice b O.jA.n O.jA.k):=y6;have HD:=hid (HA.out.below (Below.refl _ _).drew);have n1:1<=O.jA.n:=by omega
 have n2:(1:Int)<=(O.jA.n:Int):=by omega
 have n3:1<=O.jA.k:=Nat.le_trans n1 OC.out.1;have n4:(0:Int)<(O.jA.n:Int):=by omega
 have n5:0<O.jA.n:=by omega
 have n6:O.jA.n<=O.jA.k:=OC.out.1;by_cases hk1:O.jA.k=1
 ·obtain⟨S1,hg,cur,hcu⟩:=HD.out.takeF hu HO.out hf ea (o:=0) (kk:=0) (.inl (by omega));have S1':=hid S1;have gf:=hcu.jC;have B1:=hid (((B0.out.drew).mono hB).setCell (p:=⟨q,u*10+6,none⟩) hg (.slice b (O.jA.n-1) 0));rw[hk1]at y6 z6;clear h hO CO b0 hk hf S1 hcc;go_enter func125,ntmps125
  go_upto_region 9 with fail
  generalize (n7:World)=V at *;go_region_law fail
  all_goals(
   go_wp2;go_ret2;exact⟨rfl,⟨_,_,S1'.out⟩,B1.out⟩)
 ·obtain⟨S1,hg,cur,hcu⟩:=HD.out.takeF hu HO.out hf ea (o:=1) (kk:=O.jA.k-1) (.inr rfl);have S1':=hid S1;have gf:=hcu.jC;have B1:=hid (((B0.out.drew).mono hB).setCell (p:=⟨q,u*10+6,none⟩) hg (.slice (some ⟨b,1,none⟩) (O.jA.n-1) (O.jA.k-1)));clear h hO CO b0 hk hf S1 hcc;go_enter func125,ntmps125
  go_upto_region 9 with fail
  generalize (n7:World)=V at *;go_region_law fail
  all_goals(
   go_wp2;go_ret2;exact⟨rfl,⟨_,_,S1'.out⟩,B1.out⟩)
def Tryz.joinA_ren:Go.Shelf.Ren:=⟨fun|156=>141|165=>166|166=>167|169=>168|240=>185|241=>186|276=>196|277=>197|n=>n,fun|31=>61|9=>9|3=>3|4=>4|0=>0|20=>20|72=>222|76=>224|70=>220|37=>22|75=>45|127=>243|164=>100|5=>5|80=>85|n=>n,fun|n=>n⟩
theorem Tryz.joinA:Go.Proofs.Lays.n156 prog Tryz.joinA_ren:={
 mixed:=by kernel_rfl
 f156:=func141.trans (congrArg some (by kernel_rfl))
 f165:=func166.trans (congrArg some (by kernel_rfl))
 f166:=func167.trans (congrArg some (by kernel_rfl))
 f169:=func168.trans (congrArg some (by kernel_rfl))
 f240:=func185.trans (congrArg some (by kernel_rfl))
 f241:=func186.trans (congrArg some (by kernel_rfl))
 f276:=func196.trans (congrArg some (by kernel_rfl))
 f277:=func197.trans (congrArg some (by kernel_rfl))
 t0:=underlying0
 a0:=isAgg0
 z0:=sizeOf0
 v0:=zeroValue0
 t3:=underlying3
 a3:=isAgg3
 z3:=sizeOf3
 v3:=zeroValue3
 t4:=underlying4
 a4:=isAgg4
 z4:=sizeOf4
 v4:=zeroValue4
 t9:=underlying9
 a9:=isAgg9
 z9:=sizeOf9
 v9:=zeroValue9
 t20:=underlying20
 a20:=isAgg20
 z20:=sizeOf20
 v20:=zeroValue20
 t31:=underlying61
 a31:=isAgg61
 z31:=sizeOf61
 v31:=zeroValue61
 t37:=underlying22
 a37:=isAgg22
 z37:=sizeOf22
 v37:=zeroValue22
 t70:=underlying220
 a70:=isAgg220
 z70:=sizeOf220
 v70:=zeroValue220
 t72:=underlying222
 a72:=isAgg222
 z72:=sizeOf222
 v72:=zeroValue222
 t75:=underlying45
 a75:=isAgg45
 z75:=sizeOf45
 v75:=zeroValue45
 t76:=underlying224
 a76:=isAgg224
 z76:=sizeOf224
 v76:=zeroValue224
 t127:=underlying243
 a127:=isAgg243
 z127:=sizeOf243
 v127:=zeroValue243
 t164:=underlying100
 a164:=isAgg100
 z164:=sizeOf100
 v164:=zeroValue100}
def Tryz.fmtA_ren:Go.Shelf.Ren:=⟨fun|173=>133|246=>153|283=>174|284=>175|285=>176|286=>177|129=>152|317=>188|318=>189|319=>190|320=>191|337=>198|338=>199|n=>n,fun|2=>2|3=>3|9=>9|4=>4|171=>232|0=>0|53=>159|37=>22|5=>5|173=>234|212=>248|51=>208|20=>20|213=>249|46=>161|232=>255|233=>256|n=>n,fun|17=>14|18=>16|19=>17|n=>n⟩
theorem Tryz.fmtA:Go.Proofs.LaysM.n173 prog Tryz.fmtA_ren:={
 mixed:=by kernel_rfl
 f129:=func152.trans (congrArg some (by kernel_rfl))
 f173:=func133.trans (congrArg some (by kernel_rfl))
 f246:=func153.trans (congrArg some (by kernel_rfl))
 f283:=func174.trans (congrArg some (by kernel_rfl))
 f284:=func175.trans (congrArg some (by kernel_rfl))
 f285:=func176.trans (congrArg some (by kernel_rfl))
 f286:=func177.trans (congrArg some (by kernel_rfl))
 f317:=func188.trans (congrArg some (by kernel_rfl))
 f318:=func189.trans (congrArg some (by kernel_rfl))
 f319:=func190.trans (congrArg some (by kernel_rfl))
 f320:=func191.trans (congrArg some (by kernel_rfl))
 f337:=func198.trans (congrArg some (by kernel_rfl))
 f338:=func199.trans (congrArg some (by kernel_rfl))
 t0:=underlying0
 a0:=isAgg0
 z0:=sizeOf0
 v0:=zeroValue0
 t2:=underlying2
 a2:=isAgg2
 z2:=sizeOf2
 v2:=zeroValue2
 t3:=underlying3
 a3:=isAgg3
 z3:=sizeOf3
 v3:=zeroValue3
 t4:=underlying4
 a4:=isAgg4
 z4:=sizeOf4
 v4:=zeroValue4
 t5:=underlying5
 a5:=isAgg5
 z5:=sizeOf5
 v5:=zeroValue5
 t9:=underlying9
 a9:=isAgg9
 z9:=sizeOf9
 v9:=zeroValue9
 t20:=underlying20
 a20:=isAgg20
 z20:=sizeOf20
 v20:=zeroValue20
 t37:=underlying22
 a37:=isAgg22
 z37:=sizeOf22
 v37:=zeroValue22
 t46:=underlying161
 a46:=isAgg161
 z46:=sizeOf161
 v46:=zeroValue161
 t51:=underlying208
 a51:=isAgg208
 z51:=sizeOf208
 v51:=zeroValue208
 t53:=underlying159
 a53:=isAgg159
 z53:=sizeOf159
 v53:=zeroValue159
 t171:=underlying232
 a171:=isAgg232
 z171:=sizeOf232
 v171:=zeroValue232
 t173:=underlying234
 a173:=isAgg234
 z173:=sizeOf234
 v173:=zeroValue234
 t212:=underlying248
 a212:=isAgg248
 z212:=sizeOf248
 v212:=zeroValue248
 t213:=underlying249
 a213:=isAgg249
 z213:=sizeOf249
 t232:=underlying255
 a232:=isAgg255
 z232:=sizeOf255
 v232:=zeroValue255
 t233:=underlying256
 a233:=isAgg256
 z233:=sizeOf256
 v233:=zeroValue256
 g17:=by kernel_rfl
 g18:=by kernel_rfl
 g19:=by kernel_rfl
 i0:=by kernel_rfl
 i2:=by kernel_rfl
 i3:=by kernel_rfl
 i4:=by kernel_rfl
 i5:=by kernel_rfl
 i9:=by kernel_rfl
 i20:=by kernel_rfl
 i37:=by kernel_rfl
 i46:=by kernel_rfl
 i51:=by kernel_rfl
 i53:=by kernel_rfl
 i171:=by kernel_rfl
 i173:=by kernel_rfl
 i212:=by kernel_rfl
 i232:=by kernel_rfl
 i233:=by kernel_rfl
 m17:=by kernel_rfl
 m18:=by kernel_rfl
 m19:=by kernel_rfl}
theorem Tryz.Builder_Extra_156:Builder.Extra prog Tryz.joinA_ren:={
 sizeBuilder:=by kernel_rfl
 liesBuilder:=by kernel_rfl
 t5:=underlying5
 a5:=isAgg5
 z5:=sizeOf5
 v5:=zeroValue5
 infoByte:=by kernel_rfl
 cellsByte:=by kernel_rfl
 sizeByte:=by kernel_rfl
 neB5:=by decide}
open Go.RowKit Go.Sort Go.Lib in
theorem Tryz.strconv_FormatInt_10(n:Int)(h0: -9223372036854775808<=n)(h1:n<=9223372036854775807)(w:World)(htab:Lib.TabIs prog w "internal/strconv.uint64pow10" .u64 Lib.pow10Tab):
 Calls prog 133 #[.int .i64 n,.int .i64 10] w fun e w'=>e= .returned (.string ⟨(Lib.itoa n).toArray⟩)/\∃k os,w'=grow (w.drewN k) os:=Any.strconv_FormatInt_10 Tryz.fmtA n h0 h1 w htab
open Go.RowKit in
theorem Tryz.strings_Join(bk o c:Nat)(xs:List ByteArray)(sep:ByteArray)(w:World)
 (hcells:∀(j:Nat) x,xs[j]? =some x->w.cell? ⟨bk,o+j,none⟩=some (.string x))
 (hbk:bk<w.heap.size)(hN:xs.length<=140737488355328)(hcap:xs.length<=c)
 (hlen:(Lib.join (xs.map (·.data.toList)) sep.data.toList).length<=140737488355328):
 Calls prog 141 #[.slice (some ⟨bk,o,none⟩) xs.length c,.string sep] w fun e w'=>e= .returned (.string ⟨(Lib.join (xs.map (·.data.toList)) sep.data.toList).toArray⟩)/\Below w.heap.size w w':=Any.strings_Join Tryz.joinA Tryz.Builder_Extra_156 bk o c xs sep w hcells hbk hN hcap hlen
theorem YM(n:Nat):Lib.decDigits n=CN n:=by
 induction n using Nat.strongRecOn with
 |_ n ih=>
  by_cases h:n<10
  ·rw[GX h,Lib.decDigits,dif_pos h]
  ·rw[Kp h,Lib.decDigits,dif_neg h,ih (n/10) (by omega)]
def Rl(w:World):Prop:=Lib.TabIs prog w "internal/strconv.uint64pow10" .u64 Lib.pow10Tab
theorem Tryz.tabSome:(prog.globalNamed "internal/strconv.uint64pow10").isSome=true:=by kernel_rfl
theorem Tryz.tabNamed:∃g,prog.globalNamed "internal/strconv.uint64pow10" =some g:=Option.isSome_iff_exists.1 Tryz.tabSome
theorem Rl.below{w w':World}(h:Rl w)(hb:Below w w w'):Rl w':=by
 obtain⟨g,hg⟩:=Tryz.tabNamed;unfold Rl Lib.TabIs at *;refine var?_below hb hg ?_ h;rcases Nat.lt_or_ge g w with h'|h'
 ·exact h'
 ·exfalso;simp[World.var?,hg,Array.getElem?_eq_none h']at h
theorem I7(x:Int)(w:World)(h0:0<=x)(h1:x<=10000000000)(ht:Rl w):
 Calls prog 107 #[.int .i64 x] w fun e w'=>e= .returned (.string ⟨(CN x.toNat).toArray⟩)/\Below w w w':=by
 go_enter func107,ntmps107
 go_wp2_with fail
 refine(Tryz.strconv_FormatInt_10 x (by omega) (by omega) w ht).mono ?_;rintro e w' ⟨rfl,k,os,rfl⟩;have e1:Lib.itoa x=CN x.toNat:=by
  unfold Lib.itoa;rw[if_neg (by omega),YM]
 have hb:Below w w (Sort.grow (w.drewN k) os):=Lib.below_grow _ w nr k os;rw[e1];generalize Sort.grow (w.drewN k) os=W at *;go_wp2;go_ret;exact⟨rfl,hb⟩
end Go.Proofs.YtefoofaocbjdoaaGreatDoor
