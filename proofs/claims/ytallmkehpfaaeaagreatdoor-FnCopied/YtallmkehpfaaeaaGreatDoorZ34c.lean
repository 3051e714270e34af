import Derived.Test.YtallmkehpfaaeaaGreatDoorZ0c
import Derived.Test.YtallmkehpfaaeaaGreatDoorZ33c
import Derived.Test.YtallmkehpfaaeaaGreatDoorZ17c
import Derived.Test.YtallmkehpfaaeaaGreatDoorZ1c
set_option maxRecDepth 100000
set_option maxHeartbeats 16000000
namespace Go.Proofs.YtallmkehpfaaeaaGreatDoor
open Go Go.RowKit Go.Deep Go.Maps Go.BigFrame Go.Shelf Go.Proofs.Tryz
theorem TN(E:Nat->Addr)(w:World)(B P:Nat)(s:Al)(g ca q co:Nat)(lt:List Ae)(lo:List Ab)(t:Nat)(m:Value)(h:F7 w B P s g ca q co lt lo t m)(he:Mm w E)(h14:14<=B)(hB:B<=w.heap.size)(ht:t<lt.length)(X:Ae)(hX:X=lt[t])(u:Nat)(hu:u<lo.length)(O:Ab)(hO:O=lo[u])(hd:∀x∈lo,x.data.size<=maxLen)(fl:Bool)
 (FL:∀W,Below w w W->Calls prog 23 #[.agg #[X.b1,.slice X.c1.a X.c1.n X.c1.k],.slice X.own.a X.own.n X.own.k,.agg #[O.b2,.slice O.c2.a O.c2.n O.c2.k]] W fun e w'=>e= .returned (.bool fl)/\Below W W w')(hn:X.own.n<=1000)(hm:O.own.n<=1000)(L:List Int)(hL:L=Lib.compact (Cj ((List.range X.own.n).map X.own.h++(List.range O.own.n).map O.own.h))):
 Calls prog 154 #[.pointer (some ⟨P,0,none⟩),.agg #[.pointer (some ⟨q,u*10,none⟩)]] w fun e w'=>∃(v:Value) (x:Ae) (c:Int),e= .returned v/\F7 w' B P s g ca q co (lt.set t x) lo t m/\Below B w w'/\Told w' B E v c/\((c=4/\fl=false/\x=X)∨(c=5/\fl=true/\10<L.length/\x=X)∨(c=0/\fl=true/\¬10<L.length/\∃(a:Option Addr) (cc:Nat),x=⟨X.id,X.b1,X.c1,X.b2,X.c2,⟨a,L.length,cc,AJ L⟩,X.made⟩)):=by
 obtain⟨CW,gl⟩:=h.st.cell7 ht;rw[<-hX]at CW;obtain⟨CO,ql⟩:=h.st.cell10 hu hd;rw[<-hO]at CO;have XN:=hid (show X.new B w by rw[hX];exact h.st.tn _ (List.getElem_mem ht));have ON:=hid (show O.new B w by rw[hO];exact h.st.on _ (List.getElem_mem hu));have HW:=hid h;have HE:=hid he;have HX:=hid hX;have HFL:=hid FL;have HL:=hid hL;have n1:Nw (w.alloc (.cells #[.pointer (some ⟨q,u*10,none⟩)] 205)):=⟨⟩;have b0:Below w w n1:=(Below.refl _ w).alloc (Nat.le_refl _) _;have B0:=hid b0;have n5:Nv (.pointer (some ⟨q,u*10,none⟩)):=⟨⟩;have c0:(n1:World).cell? ⟨w,0,none⟩=some (.pointer (some ⟨q,u*10,none⟩)):=by go_simp
 have BX:Hid (∀W,Below (n1:World).heap.size n1 W->Ah W P (.cells (Ky s g lt.length ca q lo.length co t m) 117)/\FH W g (t*7) X/\Cr W q (u*10) O/\W.cell? ⟨w,0,none⟩=some (.pointer (some ⟨q,u*10,none⟩))):=hid (fun W hW=>⟨(HW.out.wk.below B0).below hW,(CW.below gl B0).below (Nat.lt_of_lt_of_le gl B0.out.size) hW,(CO.below ql B0).below (Nat.lt_of_lt_of_le ql B0.out.size) hW,(hW.cell (p:=⟨w,0,none⟩) (by simp)).trans c0⟩);have EF:Hid (∀args w,(callFunc 23 args).run prog w= .ok (.enter 23 args) w):=hid (enters_of func23 (by kernel_rfl) rfl);have ET:Hid (∀args w,(callFunc 138 args).run prog w= .ok (.enter 138 args) w):=hid (enters_of func138 (by kernel_rfl) rfl);have D0:=hid (Below.refl (n1:World).heap.size n1).drew;have n7:Na #[X.b1,.slice X.c1.a X.c1.n X.c1.k]:=⟨⟩;have n8:Na #[O.b2,.slice O.c2.a O.c2.n O.c2.k]:=⟨⟩;have P1:Hid (Calls prog 23 #[.agg n7,.slice X.own.a X.own.n X.own.k,.agg n8] (n1:World).drew fun e w'=>∃v,e= .returned v/\(v= .bool fl/\Below (n1:World).drew.heap.size (n1:World).drew w')):=hid ((HFL _ (Ag B0 D0)).mono fun _ _ h=>⟨_,h.1,rfl,h.2⟩);clear h he hX FL CW CO hO c0 b0 hL hd;go_enter func154,ntmps154
 go_upto_region 1 with fail
 refine An 22 (fun W=>Below (n1:World).heap.size n1 W) (by kernel_rfl) ?_;have n3:Nv (.pointer (some ⟨P,0,none⟩)):=⟨⟩;refine tq 0 6 n3 D0 ?_;simp only[ap,List.set];refine tq 1 7 n3 D0 ?_;simp only[ap,List.set];have n6:Nv (.pointer (some ⟨P,12,none⟩)):=⟨⟩;refine tq 2 8 n6 D0 ?_;simp only[ap,List.set];have n2:Nv (.pointer (some ⟨g,t*7,none⟩)):=⟨⟩;refine tq 3 9 n2 D0 ?_ (hy:=fun W h=>by obtain⟨⟨k0,k1,k2,k3,k4,k5,k6,k7,k8,k9⟩,k10,k11,k12,k13⟩:=(BX W h).1.work;go_simp);simp only[ap,List.set];refine tq 4 10 n2 D0 ?_;simp only[ap,List.set];refine tq 5 11 (.pointer (some ⟨g,t*7+1,none⟩)) D0 ?_;simp only[ap,List.set];refine tq 6 12 (.agg n7) D0 ?_ (hy:=fun W h=>by have C:=(BX W h).2.1;have y1:W.cell? ⟨g,t*7+1,none⟩=some (.int .i64 X.b1):=C.c1;have y2:W.cell? ⟨g,t*7+1+1,none⟩=some (.slice X.c1.a X.c1.n X.c1.k):=C.c2;go_simp);simp only[ap,List.set];refine tq 7 13 n3 D0 ?_;simp only[ap,List.set];refine tq 8 14 n3 D0 ?_;simp only[ap,List.set];refine tq 9 15 n6 D0 ?_;simp only[ap,List.set];refine tq 10 16 n2 D0 ?_ (hy:=fun W h=>by obtain⟨⟨k0,k1,k2,k3,k4,k5,k6,k7,k8,k9⟩,k10,k11,k12,k13⟩:=(BX W h).1.work;go_simp);simp only[ap,List.set];refine tq 11 17 n2 D0 ?_;simp only[ap,List.set];have n9:Nv (.pointer (some ⟨g,t*7+5,none⟩)):=⟨⟩;refine tq 12 18 n9 D0 ?_;simp only[ap,List.set];refine tq 13 19 (.slice X.own.a X.own.n X.own.k) D0 ?_ (hy:=fun W h=>by have C:=(BX W h).2.1;have y5:W.cell? ⟨g,t*7+5,none⟩=some (.slice X.own.a X.own.n X.own.k):=C.c5;go_simp);simp only[ap,List.set];have n4:Nv (.pointer (some ⟨w,0,none⟩)):=⟨⟩;refine tq 14 20 n4 D0 ?_;simp only[ap,List.set];refine tq 15 21 n4 D0 ?_;simp only[ap,List.set];refine tq 16 22 n5 D0 ?_ (hy:=fun W h=>by have y:=(BX W h).2.2.2;go_simp);simp only[ap,List.set];refine tq 17 23 n5 D0 ?_;simp only[ap,List.set];refine tq 18 24 (.pointer (some ⟨q,u*10+8,none⟩)) D0 ?_;simp only[ap,List.set];refine tq 19 25 (.agg n8) D0 ?_ (hy:=fun W h=>by have C:=(BX W h).2.2.1;have y1:W.cell? ⟨q,u*10+8,none⟩=some (.int .i64 O.b2):=C.c8;have y2:W.cell? ⟨q,u*10+8+1,none⟩=some (.slice O.c2.a O.c2.n O.c2.k):=C.c9;go_simp);simp only[ap,List.set];refine Ac (i:=20) (by kernel_rfl) rfl ?_;intro K hK;refine DZ (by rfl) 23 _ _ _ _ (by rfl) EF _ _ _ (by rfl) (by rfl) (by rfl) (some 26) (by rfl) _ P1 ?_;rintro v w1 ⟨rfl,b1⟩;have V1:=hid (Ag D0 b1);refine hK _ _ (fun _=>V1) ?_;clear hK K b1;simp only[ap,List.set];refine tq 21 27 (.bool (!fl)) V1 ?_;simp only[ap,List.set];refine Ak (by kernel_rfl) ?_ _;have A1:=hid (Ag B0 V1);have H1:=hid (HW.out.below A1);cases fl with
 |false=>
  have e9:=(HE.out.below h14 (A1.out.mono hB) 9 (by omega) (by omega)).1;go_wp2_with fail
  refine(DK 264 (.pointer (some (E 9))) w1).mono ?_;rintro e w2 ⟨rfl,rfl⟩;go_wp2;go_ret;have b2:Below w1 w1 (w1.alloc (.cells #[.int .i64 4,.iface 264 (.pointer (some (E 9)))] 71)):=(Below.refl _ w1).alloc (Nat.le_refl _) _;refine⟨_,rfl,X,by rw[HX.out,Gc];exact H1.out.below b2,(Ag A1 b2).mono hB,4,.inr ⟨by decide,_,9,rfl,Ah.new w1 _,by decide,by decide,by decide,Nat.le_trans hB A1.out.size⟩,⟨rfl,rfl⟩⟩
 |true=>
  go_upto_region 3 with fail
  have D2:=hid V1.out.drew;have A2:=hid (Ag B0 D2);have H2:=hid (HW.out.below A2);have P2:Hid (Calls prog 138 #[.slice X.own.a X.own.n X.own.k,.slice O.own.a O.own.n O.own.k] w1.drew fun e w'=>∃v,e= .returned v/\∃(a:Option Addr) (k:Nat),v= .slice a L.length k/\Au w' w1.drew.heap.size (.slice a L.length k) L/\Below w1.drew.heap.size w1.drew w'):=hid ((Ph X.own O.own w1.drew (XN.out.2.2.1.below A2) (ON.out.2.2.1.1.below A2) hn hm).mono fun e w' hh=>by
   obtain⟨a,k,L',h1,rfl,h3,h4⟩:=hh;rw[<-HL.out]at h1;subst h1;exact⟨_,rfl,a,k,rfl,h3,h4⟩)
  refine An 15 (fun W=>Below (n1:World).heap.size n1 W) (by kernel_rfl) ?_;refine tq 0 30 n3 D2 ?_;simp only[ap,List.set];refine tq 1 31 n3 D2 ?_;simp only[ap,List.set];refine tq 2 32 n6 D2 ?_;simp only[ap,List.set];refine tq 3 33 n2 D2 ?_ (hy:=fun W h=>by obtain⟨⟨k0,k1,k2,k3,k4,k5,k6,k7,k8,k9⟩,k10,k11,k12,k13⟩:=(BX W h).1.work;go_simp);simp only[ap,List.set];refine tq 4 34 n2 D2 ?_;simp only[ap,List.set];refine tq 5 35 n9 D2 ?_;simp only[ap,List.set];refine tq 6 36 (.slice X.own.a X.own.n X.own.k) D2 ?_ (hy:=fun W h=>by have C:=(BX W h).2.1;have y5:W.cell? ⟨g,t*7+5,none⟩=some (.slice X.own.a X.own.n X.own.k):=C.c5;go_simp);simp only[ap,List.set];refine tq 7 37 n4 D2 ?_;simp only[ap,List.set];refine tq 8 38 n4 D2 ?_;simp only[ap,List.set];refine tq 9 39 n5 D2 ?_ (hy:=fun W h=>by have y:=(BX W h).2.2.2;go_simp);simp only[ap,List.set];refine tq 10 40 n5 D2 ?_;simp only[ap,List.set];refine tq 11 41 (.pointer (some ⟨q,u*10+7,none⟩)) D2 ?_;simp only[ap,List.set];refine tq 12 42 (.slice O.own.a O.own.n O.own.k) D2 ?_ (hy:=fun W h=>by have C:=(BX W h).2.2.1;have y5:W.cell? ⟨q,u*10+7,none⟩=some (.slice O.own.a O.own.n O.own.k):=C.c7;go_simp);simp only[ap,List.set];refine Ac (i:=13) (by kernel_rfl) rfl ?_;intro K hK;refine Ax (by rfl) 138 _ _ _ (by rfl) ET _ _ (by rfl) (by rfl) (some 43) (by rfl) _ P2 ?_;rintro v w3 ⟨a,k,rfl,o3,b3⟩;have V3:=hid (Ag D2 b3);refine hK _ _ (fun _=>V3) ?_;clear hK K;simp only[ap,List.set];refine tq 14 5 (.slice a L.length k) V3 ?_;simp only[ap,List.set];refine Ak (by kernel_rfl) ?_ _;have A3:=hid (Ag B0 V3);have H3:=hid (HW.out.below A3);have sz:B<=w1.drew.heap.size:=Nat.le_trans hB A2.out.size;by_cases hl:10<L.length
  ·have i1:(10:Int)<(L.length:Int):=(by omega);have e5:=(HE.out.below h14 (A3.out.mono hB) 5 (by omega) (by omega)).1;have LH:=hid hl;clear o3 b3 hl;go_wp2_with fail
   refine(DX 5 264 (.pointer (some (E 5))) w3).mono ?_;rintro e w2 ⟨rfl,rfl⟩;go_wp2;go_ret;have b2:Below w3 w3 (w3.alloc (.cells #[.int .i64 5,.iface 264 (.pointer (some (E 5)))] 71)):=(Below.refl _ w3).alloc (Nat.le_refl _) _;refine⟨_,rfl,X,by rw[HX.out,Gc];exact H3.out.below b2,(Ag A3 b2).mono hB,5,.inr ⟨by decide,_,5,rfl,Ah.new w3 _,by decide,by decide,by decide,Nat.le_trans hB A3.out.size⟩,.inl ⟨rfl,LH,rfl⟩⟩
  ·have i1:¬(10:Int)<(L.length:Int):=(by omega);have LH:=hid hl;have cap:=Ek o3;have dn:=o3.new (Nat.le_trans cap.1 cap.2);obtain⟨S4,hBg,cur,hcu⟩:=H2.out.setOwn H3 (d:=⟨a,L.length,k,AJ L⟩) ht HX dn cap sz;have S4':=hid S4;have gf:=hcu.warm;obtain⟨⟨k0,k1,k2,k3,k4,k5,k6,k7,k8,k9⟩,k10,k11,k12,k13⟩:=H3.out.wk.work;have c5:w3.cell? ⟨g,t*7+5,none⟩=some (.slice X.own.a X.own.n X.own.k):=(BX _ V3).2.1.c5;clear o3 b3 hl S4 dn cap;go_wp2;go_ret;exact⟨_,rfl,_,S4',(A3.out.mono hB).setCell hBg _,0,.inl ⟨rfl,rfl⟩,.inr ⟨rfl,Nat.not_lt.1 LH,a,k,rfl⟩⟩
theorem F7.setQ{wr:World}{B P:Nat}{s:Al}{g ca q co:Nat}{lt:List Ae}{lo:List Ab}{t:Nat}{m:Value}(h:F7 wr B P s g ca q co lt lo t m):P≠q:=fun e=>by
 have ho:=h.st.o;rcases ho.2 with⟨hv,_⟩|⟨g',cap,cur,hv,_,hgg,_⟩
 ·cases hv
 ·cases hv;have hw:=h.wk;unfold Ah at hw;rw[e,hgg]at hw;simp at hw
theorem F7.setData{wr:World}{B P:Nat}{s:Al}{g ca q co:Nat}{lt:List Ae}{lo:List Ab}{t:Nat}{m:Value}(h:F7 wr B P s g ca q co lt lo t m){d:ByteArray}{u:Nat}(hu:u<lo.length){O:Ab}(hO:O=lo[u]):
 F7 (wr.setCell ⟨q,u*10+5,none⟩ (.string d)) B P s g ca q co lt (lo.set u ⟨O.id,O.kind,O.up,O.b1,O.c1,d,O.items,O.own,O.b2,O.c2⟩) t m/\B<=q/\∃cur,Ah wr q (.cells cur 47):=by
 obtain⟨k1,⟨cur,hc⟩,hg⟩:=h.st.setData (d:=d) hu hO;have el:(lo.set u (⟨O.id,O.kind,O.up,O.b1,O.c1,d,O.items,O.own,O.b2,O.c2⟩:Ab)).length=lo.length:=by simp
 have hn:O.cb.Nodup:=CV (L:=lo.map Ab.cb) (S:=(lt.map Ae.cb).flatten) (t:=u) (by simp[hu,hO]) (List.perm_append_comm.nodup_iff.2 h.ap.c);have hi:O.own.bs.Nodup:=CV (L:=lo.map fun x=>x.own.bs) (S:=(lt.map fun x=>x.own.bs).flatten) (t:=u) (by simp[hu,hO]) (List.perm_append_comm.nodup_iff.2 h.ap.i);have hs:O.items.bs.Nodup:=CV (L:=lo.map fun x=>x.items.bs) (S:=[]) (t:=u) (by simp[hu,hO]) (by rw[List.append_nil];exact h.ap.s);exact⟨⟨by rw[el];exact k1,h.ap.setO h.st hu (x:=⟨O.id,O.kind,O.up,O.b1,O.c1,d,O.items,O.own,O.b2,O.c2⟩) hn (fun b hb=> .inl (by rw[<-hO];exact hb)) hi (fun b hb=> .inl (by rw[<-hO];exact hb)) hs (fun b hb=> .inl (by rw[<-hO];exact hb)),by rw[el];exact h.wk.other (Ne.symm h.setQ) _,h.lp⟩,hg,cur,hc⟩
theorem Jy(w:World)(B P:Nat)(s:Al)(g ca q co:Nat)(lt:List Ae)(lo:List Ab)(t:Nat)(m:Value)(h:F7 w B P s g ca q co lt lo t m)(hB:B<=w.heap.size)(u:Nat)(hu:u<lo.length)(O:Ab)(hO:O=lo[u])(hd:∀x∈lo,x.data.size<=maxLen)(hk:s.kind=6):
 Calls prog 151 #[.pointer (some ⟨P,0,none⟩),.agg #[.pointer (some ⟨q,u*10,none⟩)]] w fun e w'=>e= .returned (.tuple #[.string ⟨#[]⟩,.nilIface])/\F7 w' B P s g ca q co lt (lo.set u ⟨O.id,O.kind,O.up,O.b1,O.c1,s.data,O.items,O.own,O.b2,O.c2⟩) t m/\Below B w w':=by
 obtain⟨CO,ql⟩:=h.st.cell10 hu hd;rw[<-hO]at CO;have n1:Nw (w.alloc (.cells #[.pointer (some ⟨q,u*10,none⟩)] 199)):=⟨⟩;have b0:Below w w n1:=(Below.refl _ w).alloc (Nat.le_refl _) _;have c0:(n1:World).cell? ⟨w,0,none⟩=some (.pointer (some ⟨q,u*10,none⟩)):=by go_simp
 obtain⟨⟨k0,k1,k2,k3,k4,k5,k6,k7,k8,k9⟩,k10,k11,k12,k13⟩:=(h.wk.below b0).work;have y5:(n1:World).cell? ⟨q,u*10+5,none⟩=some (.string O.data):=(CO.below ql b0).c5;have HA:=hid (h.below b0);have B0:=hid b0;have HO:=hid hO;rw[hk]at k1;have z0:(n1:World).drew.cell? ⟨w,0,none⟩=some (.pointer (some ⟨q,u*10,none⟩)):=c0;have z5:(n1:World).drew.cell? ⟨q,u*10+5,none⟩=some (.string O.data):=y5;have zk:(n1:World).drew.cell? ⟨P,5,none⟩=some (.string s.data):=k5;have HD:=hid (HA.out.below (Below.refl _ _).drew);obtain⟨S1,hg,cur,hcu⟩:=HD.out.setData (d:=s.data) hu HO.out;have S1':=hid S1;have gf:=hcu.warm;have B1:=hid (((B0.out.drew).mono hB).setCell (p:=⟨q,u*10+5,none⟩) hg (.string s.data));clear h hO CO b0 S1 hk;go_enter func151,ntmps151
 go_upto_region 3 with fail
 generalize (n1:World)=V at *;go_region_law fail
 all_goals(
  go_wp2;go_ret2;exact⟨rfl,S1',B1⟩)
theorem KG(w:World)(B P:Nat)(s:Al)(g ca q co:Nat)(lt:List Ae)(lo:List Ab)(t:Nat)(m:Value)(h:F7 w B P s g ca q co lt lo t m)(hB:B<=w.heap.size)(u:Nat)(hu:u<lo.length)(O:Ab)(hO:O=lo[u])(hd:∀x∈lo,x.data.size<=maxLen)(hk:s.kind=7):
 Calls prog 151 #[.pointer (some ⟨P,0,none⟩),.agg #[.pointer (some ⟨q,u*10,none⟩)]] w fun e w'=>e= .returned (.tuple #[.string O.data,.nilIface])/\F7 w' B P s g ca q co lt lo t m/\Below B w w':=by
 obtain⟨CO,ql⟩:=h.st.cell10 hu hd;rw[<-hO]at CO;have n1:Nw (w.alloc (.cells #[.pointer (some ⟨q,u*10,none⟩)] 199)):=⟨⟩;have b0:Below w w n1:=(Below.refl _ w).alloc (Nat.le_refl _) _;have c0:(n1:World).cell? ⟨w,0,none⟩=some (.pointer (some ⟨q,u*10,none⟩)):=by go_simp
 obtain⟨⟨k0,k1,k2,k3,k4,k5,k6,k7,k8,k9⟩,k10,k11,k12,k13⟩:=(h.wk.below b0).work;have y5:(n1:World).cell? ⟨q,u*10+5,none⟩=some (.string O.data):=(CO.below ql b0).c5;have HA:=hid (h.below b0);have B0:=hid b0;have HO:=hid hO;rw[hk]at k1;have B1:=hid (B0.out.mono hB);clear h hO CO b0 hk;go_enter func151,ntmps151
 go_wp2;go_ret2;exact⟨rfl,HA,B1⟩
theorem KR(w:World)(B P:Nat)(s:Al)(g ca q co:Nat)(lt:List Ae)(lo:List Ab)(t:Nat)(m:Value)(h:F7 w B P s g ca q co lt lo t m)(u:Nat)(hu:u<lo.length)(O:Ab)(hO:O=lo[u])(hd:∀x∈lo,x.data.size<=maxLen)(hk:s.kind=8)(R:Value->World->Prop)
 (CT:Calls prog 176 #[.pointer (some ⟨P,0,none⟩),.agg #[.pointer (some ⟨q,u*10,none⟩)]] (w.alloc (.cells #[.pointer (some ⟨q,u*10,none⟩)] 199)) fun e w'=>∃v,e= .returned v/\R v w'):
 Calls prog 151 #[.pointer (some ⟨P,0,none⟩),.agg #[.pointer (some ⟨q,u*10,none⟩)]] w fun e w'=>∃v,e= .returned (.tuple #[.string ⟨#[]⟩,v])/\R v w':=by
 obtain⟨CO,ql⟩:=h.st.cell10 hu hd;rw[<-hO]at CO;have n1:Nw (w.alloc (.cells #[.pointer (some ⟨q,u*10,none⟩)] 199)):=⟨⟩;have b0:Below w w n1:=(Below.refl _ w).alloc (Nat.le_refl _) _;have c0:(n1:World).cell? ⟨w,0,none⟩=some (.pointer (some ⟨q,u*10,none⟩)):=by go_simp
 obtain⟨⟨k0,k1,k2,k3,k4,k5,k6,k7,k8,k9⟩,k10,k11,k12,k13⟩:=(h.wk.below b0).work;have y5:(n1:World).cell? ⟨q,u*10+5,none⟩=some (.string O.data):=(CO.below ql b0).c5;have HA:=hid (h.below b0);have B0:=hid b0;have HO:=hid hO;rw[hk]at k1;have HC:=hid CT;clear h hO CO b0 hk CT;go_enter func151,ntmps151
 go_wp2_with fail
 refine HC.out.mono ?_;rintro e w1 ⟨v,rfl,r⟩;have HR:=hid r;clear r;go_wp2;go_ret2;exact⟨v,rfl,HR⟩
section
variable {w w':World}{B:Nat}{row:Option Nat}
theorem As.new.beside9{c:As}(h:c.new B w)(hr:∀b,row=some b->∃m F,w.rowIs b 9 m F)(hg:w.grownBy w' row):c.new B w':=h.of hg.size (fun b' e hn=>by
 obtain⟨b'',m',F',e',_,_,hr'⟩:=h.2 hn;rw[e]at e';cases e';refine hg.block b' hr'.lt (fun ee=>?_);obtain⟨m,F,h9⟩:=hr b' ee.symm;exact Ew hr' h9 (by decide) rfl)
theorem AM.new.beside9{c:AM}(h:c.new B w)(hr:∀b,row=some b->∃m F,w.rowIs b 9 m F)(hg:w.grownBy w' row):c.new B w':=h.of hg.size (fun b' e hn=>by
 obtain⟨b'',m',F',e',_,_,hr'⟩:=h.2 hn;rw[e]at e';cases e';refine hg.block b' hr'.lt (fun ee=>?_);obtain⟨m,F,h9⟩:=hr b' ee.symm;exact Ew hr' h9 (by decide) rfl)
theorem Ar.new.beside9{c:Ar}(h:c.new B w)(hr:∀b,row=some b->b∉c.bs)(hg:w.grownBy w' row):c.new B w':=h.of hg.size (fun b' e h0=>by
 obtain⟨b'',m',F',e',_,_,hr'⟩:=h.2 h0;rw[e]at e';cases e';refine hg.block b' hr'.lt (fun ee=>hr b' ee.symm ?_);unfold Ar.bs;rw[if_pos h0,e];simp)
end
theorem Bu.itemRow{w w':World}{B q co:Nat}{vt:Value}{row:Option Nat}{lt:List Ae}{lo:List Ab}(h:Bu w B vt (.slice (some ⟨q,0,none⟩) lo.length co) lt lo)(ha:Apart lt lo){u:Nat}(hu:u<lo.length){O:Ab}(hO:O=lo[u])(hr:∀b,row=some b->b∈O.items.bs/\∃m F,w.rowIs b 9 m F)(hg:w.grownBy w' row){d:Ar}(hd:d.new B w')(hdc:d.n<=d.k/\d.k<=maxLen):
 Bu (w'.setCell ⟨q,u*10+6,none⟩ (.slice d.a d.n d.k)) B vt (.slice (some ⟨q,0,none⟩) lo.length co) lt (lo.set u ⟨O.id,O.kind,O.up,O.b1,O.c1,O.data,d,O.own,O.b2,O.c2⟩)/\(∃cur,Ah w' q (.cells cur 47))/\B<=q:=by
 have hx:=h.on _ (List.getElem_mem hu);rw[<-hO]at hx;have h9:∀b,row=some b->∃m F,w.rowIs b 9 m F:=fun b e=>(hr b e).2;have other:∀{v:Value}{ty:TypeId}{sz n:Nat}{cs:List Value},w.ownsRow B ty sz v n cs->ty≠9->v.ownBlock=none∨v.ownBlock≠row:=fun{v ty sz n cs} ho hty=>by
  rcases ho.2 with⟨hv,_⟩|⟨g',cap,cur,hv,_,hgg,_⟩
  ·exact .inl (by rw[hv];rfl)
  ·refine .inr (fun e=>hty ?_);rw[hv]at e;obtain⟨m,F,c,hc,_⟩:=h9 g' (by rw[<-e];rfl);rw[hgg]at hc;simp at hc;exact hc.2
 have it:(lo.map fun x=>x.items.bs)[u]? =some O.items.bs:=by simp[hu,hO]
 have kt:CZ w' B vt lt:=World.ownsRow.kept h.t hg (other h.t (by decide));have ko:AV w' B (.slice (some ⟨q,0,none⟩) lo.length co) lo:=World.ownsRow.kept h.o hg (other h.o (by decide));have ton:∀y∈lt,y.new B w':=fun y hy=>⟨(h.tn y hy).1.beside9 h9 hg,(h.tn y hy).2.1.beside9 h9 hg,(h.tn y hy).2.2.beside9 h9 hg⟩;have oon:∀j (hj:j<lo.length),j≠u->(lo[j]).new B w':=fun j hj ne=>by
  have hy:=h.on _ (List.getElem_mem hj);refine⟨hy.1.beside9 h9 hg,hy.2.1.beside9 (fun b e hb=>?_) hg,hy.2.2.1.beside9 h9 hg,hy.2.2.2.beside9 h9 hg⟩;exact Ss ha.s (i:=j) (j:=u) (by simp[hj]) it ne hb (hr b e).1
 obtain⟨cur,hcur⟩:∃cur,Ah w' q (.cells cur 47):=by
  rcases ko.2 with⟨hv,_⟩|⟨g',cap,cur,hv,_,hgg,_⟩
  ·cases hv
  ·cases hv;exact⟨cur,hgg⟩
 have hBg:B<=q:=(World.ownsRow.lt ko q rfl).1;have kl:=Ao (i:=u*10+6) hcur (by decide) (.slice d.a d.n d.k);have ho:=(World.ownsRow.stored ko (u*10+6) (.slice d.a d.n d.k)).1;have hxn:(⟨O.id,O.kind,O.up,O.b1,O.c1,O.data,d,O.own,O.b2,O.c2⟩:Ab).new B w':=⟨hx.1.beside9 h9 hg,hd,hx.2.2.1.beside9 h9 hg,hx.2.2.2.beside9 h9 hg⟩;refine⟨⟨kt.set hcur (by decide) _,?_,fun y hy=>(ton y hy).keeps kl,fun y hy=>?_,h.tc,fun y hy=>?_⟩,⟨cur,hcur⟩,hBg⟩
 ·unfold AV;have e:=Cw (f:=Ab.cs) Ab.cs_len (l:=lo) (t:=u) (x:=(⟨O.id,O.kind,O.up,O.b1,O.c1,O.data,d,O.own,O.b2,O.c2⟩:Ab)) (u:= .slice d.a d.n d.k) (i:=6) hu (by omega) (by rw[<-hO];rfl);have el:(lo.set u (⟨O.id,O.kind,O.up,O.b1,O.c1,O.data,d,O.own,O.b2,O.c2⟩:Ab)).length=lo.length:=by simp
  rw[el];unfold AF;rw[<-e];exact ho
 ·obtain⟨j,hj,rfl⟩:=List.getElem_of_mem hy;rw[List.getElem_set];split
  ·exact hxn.keeps kl
  ·exact(oon j (by simpa using hj) (by omega)).keeps kl
 ·rcases Ea hy with rfl|hy
  ·exact hdc
  ·exact h.oc y hy
theorem F7.itemRow{w w':World}{B P:Nat}{s:Al}{g ca q co:Nat}{lt:List Ae}{lo:List Ab}{t:Nat}{m:Value}{row:Option Nat}(h:F7 w B P s g ca q co lt lo t m){u:Nat}(hu:u<lo.length){O:Ab}(hO:O=lo[u])(hr:∀b,row=some b->b∈O.items.bs/\∃m F,w.rowIs b 9 m F)(hg:w.grownBy w' row){d:Ar}(hd:d.new B w')(hdc:d.n<=d.k/\d.k<=maxLen)(hdb:∀b∈d.bs,b∈O.items.bs∨w.heap.size<=b):
 F7 (w'.setCell ⟨q,u*10+6,none⟩ (.slice d.a d.n d.k)) B P s g ca q co lt (lo.set u ⟨O.id,O.kind,O.up,O.b1,O.c1,O.data,d,O.own,O.b2,O.c2⟩) t m/\(∃cur,Ah w' q (.cells cur 47))/\B<=q/\Ah w' P (.cells (Ky s g lt.length ca q lo.length co t m) 117)/\(∀b,row=some b->B<=b/\b≠q/\b≠P):=by
 obtain⟨k1,hcu,hBg⟩:=h.st.itemRow h.ap hu hO hr hg hd hdc;have el:(lo.set u (⟨O.id,O.kind,O.up,O.b1,O.c1,O.data,d,O.own,O.b2,O.c2⟩:Ab)).length=lo.length:=by simp
 have hn:O.cb.Nodup:=CV (L:=lo.map Ab.cb) (S:=(lt.map Ae.cb).flatten) (t:=u) (by simp[hu,hO]) (List.perm_append_comm.nodup_iff.2 h.ap.c);have hi:O.own.bs.Nodup:=CV (L:=lo.map fun x=>x.own.bs) (S:=(lt.map fun x=>x.own.bs).flatten) (t:=u) (by simp[hu,hO]) (List.perm_append_comm.nodup_iff.2 h.ap.i);have hx:=h.st.on _ (List.getElem_mem hu);rw[<-hO]at hx;have rw_:∀b,row=some b->B<=b/\b≠q/\b≠P:=fun b e=>by
  obtain⟨h1,m',F,c,hc,_⟩:=hr b e;refine⟨(hx.2.1.bs.2 b h1).1,fun e'=>?_,fun e'=>?_⟩
  ·rcases h.st.o.2 with⟨hv,_⟩|⟨g',cap,cur',hv,_,hgg,_⟩
   ·cases hv
   ·cases hv;rw[<-e',hc]at hgg;simp at hgg
  ·have hw:=h.wk;unfold Ah at hw;rw[<-e',hc]at hw;simp at hw
 have wk:Ah w' P (.cells (Ky s g lt.length ca q lo.length co t m) 117):=h.wk.grown hg (fun e=>(rw_ P e.symm).2.2 rfl);exact⟨⟨by rw[el];exact k1,h.ap.setO h.st hu (x:=⟨O.id,O.kind,O.up,O.b1,O.c1,O.data,d,O.own,O.b2,O.c2⟩) hn (fun b hb=> .inl (by rw[<-hO];exact hb)) hi (fun b hb=> .inl (by rw[<-hO];exact hb)) hd.bs.1 (fun b hb=>by rw[<-hO];exact hdb b hb),by rw[el];exact wk.other (Ne.symm h.setQ) _,h.lp⟩,hcu,hBg,wk,rw_⟩
def Ar.newF(B:Nat)(w:World)(c:Ar):Prop:=c.at w/\(0<c.n->∃b off m F,c.a=some ⟨b,off,none⟩/\B<=b/\off+c.n<=m/\w.rowIs b 9 m F)
theorem Ar.new.f{B:Nat}{w:World}{c:Ar}(h:c.new B w):c.newF B w:=⟨h.1,fun h0=>by
 obtain⟨b,m,F,e,h1,h2,h3⟩:=h.2 h0;exact⟨b,0,m,F,e,h1,by omega,h3⟩⟩
theorem Ar.newF.of{B:Nat}{w w':World}{c:Ar}(h:c.newF B w)(hs:w.heap.size<=w'.heap.size)(hb:∀b∈c.bs,w'.heap[b]? =w.heap[b]?):c.newF B w':=
 ⟨⟨h.1.1,fun hn=>by
   obtain⟨b,off,e,hlt,hc⟩:=h.1.2.1 hn;have hm:b∈c.bs:=(by unfold Ar.bs;rw[if_pos hn,e];simp);exact⟨b,off,e,Nat.lt_of_lt_of_le hlt hs,fun i hi=>by rw[World.cell?_of_block (a:=⟨b,off+i,none⟩) (hb b hm)];exact hc i hi⟩,h.1.2.2⟩,fun hn=>by
   obtain⟨b,off,m,F,e,h1,h2,h3⟩:=h.2 hn;have hm:b∈c.bs:=(by unfold Ar.bs;rw[if_pos hn,e];simp);exact⟨b,off,m,F,e,h1,h2,h3.of_block (hb b hm)⟩⟩
theorem Ar.newF.lt{B:Nat}{w:World}{c:Ar}(h:c.newF B w):∀b∈c.bs,B<=b/\b<w.heap.size:=fun b hb=>by
 unfold Ar.bs at hb;split at hb
 ·rename_i h0;obtain⟨b',off,m,F,e,h1,_,h3⟩:=h.2 h0;rw[e]at hb;rw[List.mem_singleton.1 hb];exact⟨h1,h3.lt⟩
 ·cases hb
theorem Ar.newF.below{B:Nat}{w w':World}{c:Ar}(h:c.newF B w)(hb:Below w w w'):c.newF B w':=h.of hb.size (fun b hm=>hb.block b (h.lt b hm).2)
def Ab.newF(B:Nat)(w:World)(t:Ab):Prop:=t.c1.new B w/\t.items.newF B w/\t.own.new B w/\t.c2.new B w
theorem Ab.newF.at{B:Nat}{w:World}{t:Ab}(h:t.newF B w)(hd:t.data.size<=maxLen):t.at w:=⟨h.1.1,h.2.1.1,h.2.2.1.1,h.2.2.2.1,hd⟩
structure GO(w:World)(B:Nat)(vt vo:Value)(lt:List Ae)(lo:List Ab):Prop where
 t:CZ w B vt lt
 o:AV w B vo lo
 tn:∀x∈lt,x.new B w
 on:∀x∈lo,x.newF B w
theorem Bu.f{w:World}{B:Nat}{vt vo:Value}{lt:List Ae}{lo:List Ab}(h:Bu w B vt vo lt lo):GO w B vt vo lt lo:=⟨h.t,h.o,h.tn,fun x hx=>⟨(h.on x hx).1,(h.on x hx).2.1.f,(h.on x hx).2.2⟩⟩
theorem GO.below{w w':World}{B:Nat}{vt vo:Value}{lt:List Ae}{lo:List Ab}(h:GO w B vt vo lt lo)(hb:Below w w w'):GO w' B vt vo lt lo:=
 ⟨h.t.below hb,h.o.below hb,fun x hx=>(h.tn x hx).keeps (CG.of_below hb).l,fun x hx=>⟨(h.on x hx).1.below hb,(h.on x hx).2.1.below hb,(h.on x hx).2.2.1.below hb,(h.on x hx).2.2.2.below hb⟩⟩
structure Pr(wr:World)(B P:Nat)(s:Al)(g ca q co:Nat)(lt:List Ae)(lo:List Ab)(t:Nat)(m:Value):Prop where
 st:GO wr B (.slice (some ⟨g,0,none⟩) lt.length ca) (.slice (some ⟨q,0,none⟩) lo.length co) lt lo
 ap:Apart lt lo
 wk:Ah wr P (.cells (Ky s g lt.length ca q lo.length co t m) 117)
theorem F7.f{wr:World}{B P:Nat}{s:Al}{g ca q co:Nat}{lt:List Ae}{lo:List Ab}{t:Nat}{m:Value}(h:F7 wr B P s g ca q co lt lo t m):Pr wr B P s g ca q co lt lo t m:=⟨h.st.f,h.ap,h.wk⟩
theorem Pr.below{wr w':World}{B P:Nat}{s:Al}{g ca q co:Nat}{lt:List Ae}{lo:List Ab}{t:Nat}{m:Value}(h:Pr wr B P s g ca q co lt lo t m)(hb:Below wr wr w'):Pr w' B P s g ca q co lt lo t m:=⟨h.st.below hb,h.ap,h.wk.below hb⟩
theorem Nk(tmps:Array Value)(W:World)(P:Nat)(x y:Value)(h:Ah W P (.cells #[x,y] 30))(h2:tmps[2]? =some (.pointer (some ⟨P,0,none⟩))):
 (results Tryz.f172 tmps).run prog W= .ok (.agg #[x,y]) W:=by
 obtain⟨z0,z1⟩:=h.two;simp[results,Tryz.results172,go_sem,h2,z0,z1]
theorem NF(q j:Nat)(b:Int)(c:As)(w:World)(hq:q<w.heap.size)(h3:w.cell? ⟨q,j+3,none⟩=some (.int .i64 b))(h4:w.cell? ⟨q,j+3+1,none⟩=some (.slice c.a c.n c.k)):
 Calls prog 172 #[.agg #[.pointer (some ⟨q,j,none⟩)]] w fun e w'=>e= .returned (.agg #[.int .i64 b,.slice c.a c.n c.k])/\Below w w w':=by
 have n1:Nw (w.alloc (.cells #[.pointer (some ⟨q,j,none⟩)] 197)):=⟨⟩;have n2:No (.cells #[.int .i64 0,.slice none 0 0] 30):=⟨⟩;have b0:Below w w ((n1:World).alloc n2):=((Below.refl _ w).alloc (Nat.le_refl _) _).alloc (by simp) _;have R0:Ah ((n1:World).alloc n2) (w.heap.size+1) n2:=by
  have:=Ah.new n1 n2;simpa using this
 have e3:=(b0.cell (p:=⟨q,j+3,none⟩) hq).trans h3;have e4:=(b0.cell (p:=⟨q,j+3+1,none⟩) hq).trans h4;obtain⟨r0,r1⟩:=R0.two;have rf:=R0.warm;clear R0 b0;go_enter func172,ntmps172
 go_wp2;refine bodyPost_ret (Nk _ _ (w.heap.size+1) (.int .i64 b) (.slice c.a c.n c.k) (by have:=Ah.new n1 (.cells #[.int .i64 b,.slice c.a c.n c.k] 30);simpa using this) rfl) rfl ⟨rfl,?_⟩;exact((Below.refl _ w).alloc (Nat.le_refl _) _).alloc (by simp) _
theorem WQ(x:TypeId)(w:World):(Instr.typeAssert .nilIface x 199 true).run prog w= .ok (.tuple #[.agg #[.pointer none],.bool false]) w:=by
 have hu:∀w,(underlying 199).run prog w= .ok _ w:=fun w=>by simp[underlying,go_sem,underlying199];rfl
 simp[Instr.typeAssert,go_sem,hu,zeroValue199]
theorem Po(x:TypeId)(v:Value)(w:World):(Instr.typeAssert (.iface 199 v) x 199 true).run prog w= .ok (.tuple #[v,.bool true]) w:=by
 have hu:∀w,(underlying 199).run prog w= .ok _ w:=fun w=>by simp[underlying,go_sem,underlying199];rfl
 simp[Instr.typeAssert,go_sem,hu]
theorem OJ(x:TypeId)(t:TypeId)(v:Value)(w:World)(h:t≠199):(Instr.typeAssert (.iface t v) x 199 true).run prog w= .ok (.tuple #[.agg #[.pointer none],.bool false]) w:=by
 have hu:∀w,(underlying 199).run prog w= .ok _ w:=fun w=>by simp[underlying,go_sem,underlying199];rfl
 simp[Instr.typeAssert,go_sem,hu,zeroValue199,h]
theorem WJ(x:TypeId)(v:Value)(w:World):(Instr.typeAssert (.iface 201 v) x 201 true).run prog w= .ok (.tuple #[v,.bool true]) w:=by
 have hu:∀w,(underlying 201).run prog w= .ok _ w:=fun w=>by simp[underlying,go_sem,underlying201];rfl
 simp[Instr.typeAssert,go_sem,hu]
theorem Vl(x:TypeId)(t:TypeId)(v:Value)(w:World)(h:t≠201):(Instr.typeAssert (.iface t v) x 201 true).run prog w= .ok (.tuple #[.agg #[.pointer none],.bool false]) w:=by
 have hu:∀w,(underlying 201).run prog w= .ok _ w:=fun w=>by simp[underlying,go_sem,underlying201];rfl
 simp[Instr.typeAssert,go_sem,hu,zeroValue201,h]
theorem Xg(x:TypeId)(v:Value)(w:World):(Instr.typeAssert (.iface 203 v) x 203 true).run prog w= .ok (.tuple #[v,.bool true]) w:=by
 have hu:∀w,(underlying 203).run prog w= .ok _ w:=fun w=>by simp[underlying,go_sem,underlying203];rfl
 simp[Instr.typeAssert,go_sem,hu]
theorem XG(x:TypeId)(t:TypeId)(v:Value)(w:World)(h:t≠203):(Instr.typeAssert (.iface t v) x 203 true).run prog w= .ok (.tuple #[.agg #[.pointer none],.bool false]) w:=by
 have hu:∀w,(underlying 203).run prog w= .ok _ w:=fun w=>by simp[underlying,go_sem,underlying203];rfl
 simp[Instr.typeAssert,go_sem,hu,zeroValue203,h]
theorem WP(x:TypeId)(v:Value)(w:World):(Instr.typeAssert (.iface 205 v) x 205 true).run prog w= .ok (.tuple #[v,.bool true]) w:=by
 have hu:∀w,(underlying 205).run prog w= .ok _ w:=fun w=>by simp[underlying,go_sem,underlying205];rfl
 simp[Instr.typeAssert,go_sem,hu]
theorem Ah.sevenF{W:World}{P t:Nat}{x0 x1 x2 x3 x4 x5 x6:Value}(h:Ah W P (.cells #[x0,x1,x2,x3,x4,x5,x6] t)):W.cell? ⟨P,0,none⟩=some x0/\W.cell? ⟨P,1,none⟩=some x1/\W.cell? ⟨P,2,none⟩=some x2/\W.cell? ⟨P,3,none⟩=some x3/\W.cell? ⟨P,4,none⟩=some x4/\W.cell? ⟨P,5,none⟩=some x5/\W.cell? ⟨P,6,none⟩=some x6:=by
 unfold Ah at h;simp[World.cell?,h]
def Kl(id made b1:Int)(n1:Nat)(f1 g1:Nat->Int)(b2:Int)(n2:Nat)(f2 g2:Nat->Int)(n3:Nat)(h:Nat->Int)(bl:Int)(nl:Nat)(fl gl:Nat->Int):Bool:=
 Dg id made b1 n1 f1 g1 b2 n2 f2 g2 n3 h&&(AO bl nl fl gl&&Cg bl nl fl gl n3 h b1 n1 f1 g1)
def Mz(id made b1:Int)(n1:Nat)(f1 g1:Nat->Int)(b2:Int)(n2:Nat)(f2 g2:Nat->Int)(n3:Nat)(h:Nat->Int)(bl:Int)(nl:Nat)(fl gl:Nat->Int):Bool:=
 Dg id made b1 n1 f1 g1 b2 n2 f2 g2 n3 h&&(AO bl nl fl gl&&Cg b1 n1 f1 g1 n3 h bl nl fl gl)
def Jw(id made b1:Int)(n1:Nat)(f1 g1:Nat->Int)(b2:Int)(n2:Nat)(f2 g2:Nat->Int)(n3:Nat)(h:Nat->Int)(bl:Int)(nl:Nat)(fl gl:Nat->Int):Bool:=
 Kl id made b1 n1 f1 g1 b2 n2 f2 g2 n3 h bl nl fl gl&&Mz id made b1 n1 f1 g1 b2 n2 f2 g2 n3 h bl nl fl gl
theorem MK{id made b1:Int}{n1:Nat}{f1 g1:Nat->Int}{b2:Int}{n2:Nat}{f2 g2:Nat->Int}{n3:Nat}{h:Nat->Int}(t:Dg id made b1 n1 f1 g1 b2 n2 f2 g2 n3 h=true):AO b1 n1 f1 g1=true/\AO b2 n2 f2 g2=true/\BH n3 h=true:=by
 simp only[Dg,Bool.and_eq_true]at t;exact⟨t.1.1.1.2,t.1.1.2,t.1.2⟩
theorem Jc(id made b1:Int)(a1:Option Addr)(n1 k1:Nat)(f1 g1:Nat->Int)(b2:Int)(a2:Option Addr)(n2 k2:Nat)(f2 g2:Nat->Int)(a3:Option Addr)(n3 k3:Nat)(h:Nat->Int)(bl:Int)(al:Option Addr)(nl kl:Nat)(fl gl:Nat->Int)(w:World)(hn1:n1<=maxLen)(hn2:n2<=maxLen)(hn3:n3<=maxLen)(hc1:AI w a1 n1 f1 g1)(hc2:AI w a2 n2 f2 g2)(hc3:AX w a3 n3 h)(hnl:nl<=maxLen)(hcl:AI w al nl fl gl):
 Calls prog 24 #[.agg #[.int .i64 id,.int .i64 b1,.slice a1 n1 k1,.int .i64 b2,.slice a2 n2 k2,.slice a3 n3 k3,.int .i64 made],.agg #[.int .i64 bl,.slice al nl kl]] w fun e w'=>e= .returned (.bool (Kl id made b1 n1 f1 g1 b2 n2 f2 g2 n3 h bl nl fl gl))/\Below w w w':=by
 have n4:No (.cells #[.int .i64 id,.int .i64 b1,.slice a1 n1 k1,.int .i64 b2,.slice a2 n2 k2,.slice a3 n3 k3,.int .i64 made] 42):=⟨⟩;have n5:No (.cells #[.int .i64 bl,.slice al nl kl] 30):=⟨⟩;have hb0:=((Below.refl _ w).alloc (Nat.le_refl _) n4).alloc (by simp) n5;have yT:Ah ((w.alloc n4).alloc n5) w n4:=(Ah.new w _).alloc _;have yL:Ah ((w.alloc n4).alloc n5) (w.heap.size+1) n5:=by have:=Ah.new (w.alloc n4) n5;simpa using this
 go_enter func24,ntmps24
 go_wp2_with fail
 refine(Hn _ _ _ _ _ _ f1 g1 _ _ _ _ f2 g2 _ _ _ h _ hn1 hn2 hn3 (hc1.below hb0) (hc2.below hb0) (hc3.below hb0)).mono ?_;rintro e w1 ⟨rfl,hb1⟩;have B1:Below w w w1:=hb0.trans (hb1.mono (by simp;omega));have xT:=yT.below hb1;have xL:=yL.below hb1;obtain⟨x0,x1,x2,x3,x4,x5,x6⟩:=xT.sevenF;obtain⟨x7,x8⟩:=xL.two;clear yT yL hb0 hb1;by_cases t1:Dg id made b1 n1 f1 g1 b2 n2 f2 g2 n3 h=true
 ·go_wp2_with fail
  refine(Gx _ _ _ _ fl gl _ _ _ h _ _ _ _ f1 g1 _ hnl hn1 hn3 (hcl.below B1) (hc1.below B1) (hc3.below B1)).mono ?_;rintro e w2 ⟨rfl,hb2⟩;have B2:Below w w w2:=B1.trans (hb2.mono B1.size);clear x0 x1 x2 x3 x4 x5 x6 x7 x8 xT xL;go_wp2;go_ret;obtain⟨p1,_,p3⟩:=MK t1;exact⟨Af (by simp[Cq,Kl,t1,p1,p3]),B2⟩
 ·have t1':Dg id made b1 n1 f1 g1 b2 n2 f2 g2 n3 h=false:=by simpa using t1
  clear t1;go_wp2;go_ret;exact⟨Af (by simp[Kl,t1']),B1⟩
theorem Lb(id made b1:Int)(a1:Option Addr)(n1 k1:Nat)(f1 g1:Nat->Int)(b2:Int)(a2:Option Addr)(n2 k2:Nat)(f2 g2:Nat->Int)(a3:Option Addr)(n3 k3:Nat)(h:Nat->Int)(bl:Int)(al:Option Addr)(nl kl:Nat)(fl gl:Nat->Int)(w:World)(hn1:n1<=maxLen)(hn2:n2<=maxLen)(hn3:n3<=maxLen)(hc1:AI w a1 n1 f1 g1)(hc2:AI w a2 n2 f2 g2)(hc3:AX w a3 n3 h)(hnl:nl<=maxLen)(hcl:AI w al nl fl gl):
 Calls prog 54 #[.agg #[.int .i64 id,.int .i64 b1,.slice a1 n1 k1,.int .i64 b2,.slice a2 n2 k2,.slice a3 n3 k3,.int .i64 made],.agg #[.int .i64 bl,.slice al nl kl]] w fun e w'=>e= .returned (.bool (Mz id made b1 n1 f1 g1 b2 n2 f2 g2 n3 h bl nl fl gl))/\Below w w w':=by
 have n4:No (.cells #[.int .i64 id,.int .i64 b1,.slice a1 n1 k1,.int .i64 b2,.slice a2 n2 k2,.slice a3 n3 k3,.int .i64 made] 42):=⟨⟩;have n5:No (.cells #[.int .i64 bl,.slice al nl kl] 30):=⟨⟩;have hb0:=((Below.refl _ w).alloc (Nat.le_refl _) n4).alloc (by simp) n5;have yT:Ah ((w.alloc n4).alloc n5) w n4:=(Ah.new w _).alloc _;have yL:Ah ((w.alloc n4).alloc n5) (w.heap.size+1) n5:=by have:=Ah.new (w.alloc n4) n5;simpa using this
 go_enter func54,ntmps54
 go_wp2_with fail
 refine(Hn _ _ _ _ _ _ f1 g1 _ _ _ _ f2 g2 _ _ _ h _ hn1 hn2 hn3 (hc1.below hb0) (hc2.below hb0) (hc3.below hb0)).mono ?_;rintro e w1 ⟨rfl,hb1⟩;have B1:Below w w w1:=hb0.trans (hb1.mono (by simp;omega));have xT:=yT.below hb1;have xL:=yL.below hb1;obtain⟨x0,x1,x2,x3,x4,x5,x6⟩:=xT.sevenF;obtain⟨x7,x8⟩:=xL.two;clear yT yL hb0 hb1;by_cases t1:Dg id made b1 n1 f1 g1 b2 n2 f2 g2 n3 h=true
 ·go_wp2_with fail
  refine(Gx _ _ _ _ f1 g1 _ _ _ h _ _ _ _ fl gl _ hn1 hnl hn3 (hc1.below B1) (hcl.below B1) (hc3.below B1)).mono ?_;rintro e w2 ⟨rfl,hb2⟩;have B2:Below w w w2:=B1.trans (hb2.mono B1.size);clear x0 x1 x2 x3 x4 x5 x6 x7 x8 xT xL;go_wp2;go_ret;obtain⟨p1,_,p3⟩:=MK t1;exact⟨Af (by simp[Cq,Mz,t1,p1,p3]),B2⟩
 ·have t1':Dg id made b1 n1 f1 g1 b2 n2 f2 g2 n3 h=false:=by simpa using t1
  clear t1;go_wp2;go_ret;exact⟨Af (by simp[Mz,t1']),B1⟩
theorem Kz(id made b1:Int)(a1:Option Addr)(n1 k1:Nat)(f1 g1:Nat->Int)(b2:Int)(a2:Option Addr)(n2 k2:Nat)(f2 g2:Nat->Int)(a3:Option Addr)(n3 k3:Nat)(h:Nat->Int)(bl:Int)(al:Option Addr)(nl kl:Nat)(fl gl:Nat->Int)(w:World)(hn1:n1<=maxLen)(hn2:n2<=maxLen)(hn3:n3<=maxLen)(hc1:AI w a1 n1 f1 g1)(hc2:AI w a2 n2 f2 g2)(hc3:AX w a3 n3 h)(hnl:nl<=maxLen)(hcl:AI w al nl fl gl):
 Calls prog 22 #[.agg #[.int .i64 id,.int .i64 b1,.slice a1 n1 k1,.int .i64 b2,.slice a2 n2 k2,.slice a3 n3 k3,.int .i64 made],.agg #[.int .i64 bl,.slice al nl kl]] w fun e w'=>e= .returned (.bool (Jw id made b1 n1 f1 g1 b2 n2 f2 g2 n3 h bl nl fl gl))/\Below w w w':=by
 have n4:No (.cells #[.int .i64 id,.int .i64 b1,.slice a1 n1 k1,.int .i64 b2,.slice a2 n2 k2,.slice a3 n3 k3,.int .i64 made] 42):=⟨⟩;have n5:No (.cells #[.int .i64 bl,.slice al nl kl] 30):=⟨⟩;have hb0:=((Below.refl _ w).alloc (Nat.le_refl _) n4).alloc (by simp) n5;have yT:Ah ((w.alloc n4).alloc n5) w n4:=(Ah.new w _).alloc _;have yL:Ah ((w.alloc n4).alloc n5) (w.heap.size+1) n5:=by have:=Ah.new (w.alloc n4) n5;simpa using this
 go_enter func22,ntmps22
 go_wp2_with fail
 refine(Jc _ _ _ _ _ _ f1 g1 _ _ _ _ f2 g2 _ _ _ h _ _ _ _ fl gl _ hn1 hn2 hn3 (hc1.below hb0) (hc2.below hb0) (hc3.below hb0) hnl (hcl.below hb0)).mono ?_;rintro e w1 ⟨rfl,hb1⟩;have B1:Below w w w1:=hb0.trans (hb1.mono (by simp;omega));have xT:=yT.below hb1;have xL:=yL.below hb1;obtain⟨x0,x1,x2,x3,x4,x5,x6⟩:=xT.sevenF;obtain⟨x7,x8⟩:=xL.two;clear yT yL hb0 hb1;by_cases t1:Kl id made b1 n1 f1 g1 b2 n2 f2 g2 n3 h bl nl fl gl=true
 ·go_wp2_with fail
  refine(Lb _ _ _ _ _ _ f1 g1 _ _ _ _ f2 g2 _ _ _ h _ _ _ _ fl gl _ hn1 hn2 hn3 (hc1.below B1) (hc2.below B1) (hc3.below B1) hnl (hcl.below B1)).mono ?_;rintro e w2 ⟨rfl,hb2⟩;have B2:Below w w w2:=B1.trans (hb2.mono B1.size);clear x0 x1 x2 x3 x4 x5 x6 x7 x8 xT xL;go_wp2;go_ret;exact⟨Af (by simp[Jw,t1]),B2⟩
 ·have t1':Kl id made b1 n1 f1 g1 b2 n2 f2 g2 n3 h bl nl fl gl=false:=by simpa using t1
  clear t1;go_wp2;go_ret;exact⟨Af (by simp[Jw,t1']),B1⟩
end Go.Proofs.YtallmkehpfaaeaaGreatDoor
