import Derived.Test.YtefoofaocbjdoaaGreatDoorZ28s
set_option maxRecDepth 100000
set_option maxHeartbeats 16000000
namespace Go.Proofs.YtefoofaocbjdoaaGreatDoor
open Go Go.RowKit Go.Deep Go.Maps Go.BigFrame Go.Shelf Go.Proofs.Tryz
theorem Az.new{w:World}{B k:Nat}{a:Option Addr}{l:List Int}(h:Az w B (.slice a l.length k) l)(hm:l.length<=maxLen):(⟨a,l.length,k,AX l⟩:AI).new B w:=
 ⟨⟨hm,(Az.lies h).ints⟩,fun h0=>by have:=Dt h h0;simpa using this⟩
theorem Ew.setOwn{w0 wr:World}{B P:Nat}{s:Al}{g ca q co:Nat}{lt:List Ae}{lo:List Ab}{t:Nat}{m:Value}(h0:Ew w0 B P s g ca q co lt lo t m)(h:Ew wr B P s g ca q co lt lo t m){d:AI}(ht:t<lt.length){X:Ae}(hX:X=lt[t])(hd:d.new w0 wr)(hdc:d.n<=d.k/\d.k<=maxLen)(hB:B<=w0.heap.size):
 Ew (wr.setCell ⟨g,t*7+5,none⟩ (.slice d.a d.n d.k)) B P s g ca q co (lt.set t ⟨X.id,X.b1,X.c1,X.b2,X.c2,d,X.made⟩) lo t m/\B<=g/\∃cur,Ah wr g (.cells cur 57):=by
 obtain⟨k1,⟨cur,hc⟩,hg⟩:=h.st.setOwn ht hX (hd.low hB) hdc;have el:(lt.set t (⟨X.id,X.b1,X.c1,X.b2,X.c2,d,X.made⟩:Ae)).length=lt.length:=by simp
 have hn:X.cb.Nodup:=Dh (L:=lt.map Ae.cb) (t:=t) (by simp[ht,hX]) h.ap.c;exact⟨⟨by rw[el];exact k1,h.ap.setT h0.st ht (x:=⟨X.id,X.b1,X.c1,X.b2,X.c2,d,X.made⟩) hn (fun b hb=> .inl (by rw[<-hX];exact hb)) hd.bs.1 (fun y hy=> .inr (hd.bs.2 y hy).1),by rw[el];exact h.wk.other (Ne.symm h.setP.1) _,h.lp⟩,hg,cur,hc⟩
theorem Sx(w:World)(B P:Nat)(s:Al)(g ca q co:Nat)(lt:List Ae)(lo:List Ab)(t:Nat)(m:Value)(h:Ew w B P s g ca q co lt lo t m)(hB:B<=w.heap.size)(ht:t<lt.length)(X:Ae)(hX:X=lt[t])(h1:X.made≠30)(h2:X.own.n≠10)(hi:1<=X.id/\X.id<=1000000)(hm:0<=X.made/\X.made<=1000000)(hn:X.own.n<=1000)(tx:ByteArray)
 (DEC:∀W,Below B w W->Calls prog 107 #[.int .i64 (Av X)] W fun e w'=>e= .returned (.string tx)/\Below W W w'):
 Calls prog 73 #[.pointer P] w fun e w'=>∃(a:Option Addr) (cc:Nat) (L:List Int),L=Lib.compact (Cy ((List.range X.own.n).map X.own.h++[Av X]))/\e= .returned (.tuple #[.string tx,.nilIface])/\Ew w' B P s g ca q co (lt.set t ⟨X.id,X.b1,X.c1,X.b2,X.c2,⟨a,L.length,cc,AX L⟩,X.made+1⟩) lo t m/\Below B w w':=by
 obtain⟨CW,gl⟩:=h.st.jJ ht;rw[<-hX]at CW;have q6:w.cell? ⟨g,t*7+6,none⟩=some (.int .i64 X.made):=CW.c6;have q5:w.cell? ⟨g,t*7+5,none⟩=some (.slice X.own.a X.own.n X.own.k):=CW.c5;obtain⟨_,_,_,c12,_⟩:=h.wk.jZ;have NUM:=hid (Uk w B P s g ca q co lt lo t m h ht X hX hi hm);have HD:=hid DEC;have b1:(X.made==30)=false:=by simpa using h1
 have b2:¬(X.own.n:Int)=10:=by omega
 have b3:((X.own.n:Int)==10)=false:=by simpa using b2
 have HX:=hid hX;clear h CW hX DEC;go_enter func73,ntmps73
 go_wp2_with fail
 refine NUM.out.mono ?_;rintro e w1 ⟨rfl,s1,bb1⟩;have el:(lt.set t (⟨X.id,X.b1,X.c1,X.b2,X.c2,X.own,X.made+1⟩:Ae)).length=lt.length:=by simp
 have S1:Hid (Ew w1 B P s g ca q co (lt.set t ⟨X.id,X.b1,X.c1,X.b2,X.c2,X.own,X.made+1⟩) lo t m):=hid s1;have B1:=hid bb1;obtain⟨C1,gl1⟩:=s1.st.jJ (t:=t) (by rw[el];exact ht);have eg:(lt.set t (⟨X.id,X.b1,X.c1,X.b2,X.c2,X.own,X.made+1⟩:Ae))[t]'(by rw[el];exact ht)=⟨X.id,X.b1,X.c1,X.b2,X.c2,X.own,X.made+1⟩:=by simp
 rw[eg]at C1;have n2:No (.cells (If s g lt.length ca q lo.length co t m) 91):=⟨⟩;have Z1:Hid ((fun W=>Ah W P n2/\W.cell? ⟨g,t*7+5,none⟩=some (.slice X.own.a X.own.n X.own.k)) w1.drew):=hid ⟨by have:=s1.wk;rw[el]at this;exact this,C1.c5⟩;have XA:Hid (X.own.at w1.drew):=hid (by have:=(s1.st.tn _ (List.getElem_mem (show t<_ by rw[el];exact ht)));rw[eg]at this;exact this.2.2.1.below (Below.refl _ w1).drew);have ET:Hid (∀args w,(callFunc 106 args).run prog w= .ok (.enter 106 args) w):=hid (enters_of func106 (by kernel_rfl) rfl);clear NUM s1 bb1 C1 q6 q5 c12 eg;go_upto_region 6 with fail
 refine Am 16 (fun W=>Ah W P n2/\W.cell? ⟨g,t*7+5,none⟩=some (.slice X.own.a X.own.n X.own.k)) (by kernel_rfl) ?_;have n3:Nv (.pointer P):=⟨⟩;refine tr 0 28 n3 Z1 ?_;refine tr 1 29 n3 Z1 ?_;have n5:Nv (.pointer (some ⟨P,12,none⟩)):=⟨⟩;refine tr 2 30 n5 Z1 ?_;have n4:Nv (.pointer (some ⟨g,t*7,none⟩)):=⟨⟩;refine tr 3 31 n4 Z1 ?_ (hy:=fun W h=>by obtain⟨_,_,_,k12,_⟩:=h.1.jZ;go_simp);refine tr 4 32 n3 Z1 ?_;refine tr 5 33 n3 Z1 ?_;refine tr 6 34 n5 Z1 ?_;refine tr 7 35 n4 Z1 ?_ (hy:=fun W h=>by obtain⟨_,_,_,k12,_⟩:=h.1.jZ;go_simp);refine tr 8 36 n4 Z1 ?_;refine tr 9 37 (.pointer (some ⟨g,t*7+5,none⟩)) Z1 ?_;refine tr 10 38 (.slice X.own.a X.own.n X.own.k) Z1 ?_ (hy:=fun W h=>by have y5:=h.2;go_simp);refine tr 11 39 (.int .i64 (Av X)) Z1 ?_;have n1:Nw (w1.alloc (.cells #[.int .i64 (Av X)] 2)):=⟨⟩;have BA:Below w1 w1 (n1:World).drew:=(Be w1 _).drew;have ZA:Hid ((fun W=>Ah W P n2/\W.cell? ⟨g,t*7+5,none⟩=some (.slice X.own.a X.own.n X.own.k)) (n1:World).drew):=hid ⟨(show Ah w1 P _ from Z1.out.1).below BA,(BA.cell (p:=⟨g,t*7+5,none⟩) gl1).trans (show w1.cell? ⟨g,t*7+5,none⟩=_ from Z1.out.2)⟩;have DC:((n1:World).drew).cell? ⟨w1,0,none⟩=some (.int .i64 (Av X)):=by go_simp
 have DA:Hid ((⟨some ⟨w1,0,none⟩,1,1,fun _=>Av X⟩:AI).at (n1:World).drew):=hid ⟨by show 1<=maxLen;unfold maxLen;decide,fun _=>⟨w1,0,rfl,by simp[World.drew],fun j hj=>by
  have e:j=0:=by simp at hj;omega
  subst e;exact DC⟩⟩
 clear DC;have P2:Hid (Calls prog 106 #[X.own,.slice (w1) 1 1] (n1:World).drew fun e w'=>∃v,e= .returned v/\∃(a:Option Addr) (k:Nat) (L:List Int),L=Lib.compact (Cy ((List.range X.own.n).map X.own.h++[Av X]))/\v= .slice a L.length k/\Az w' (n1:World).drew.heap.size (.slice a L.length k) L/\Below (n1:World).drew.heap.size (n1:World).drew w'):=hid ((Kz X.own ⟨some ⟨w1,0,none⟩,1,1,fun _=>Av X⟩ (n1:World).drew ((show X.own.at w1 from XA.out).below BA) DA hn (by simp)).mono fun e w' hh=>by
  obtain⟨a,k,L,h1,rfl,h3,h4⟩:=hh;exact⟨_,rfl,a,k,L,h1,rfl,h3,h4⟩)
 refine Ac (i:=12) (by kernel_rfl) rfl ?_;intro K hK;go_simp;refine hK _ _ (fun _=>ZA) ?_;clear hK K;try simp only[ap,List.set]
 have SA:=hid (S1.out.below BA);have A1:=hid (B1.out.trans (BA.mono (Nat.le_trans hB B1.out.size)));have sz:B<=((n1:World).drew).heap.size:=Nat.le_trans hB A1.out.size;refine Ac (i:=13) (by kernel_rfl) rfl ?_;intro K hK;refine AJ (by rfl) 106 _ _ _ (by rfl) ET _ _ (by rfl) (by rfl) (some 41) (by rfl) _ P2 ?_;rintro v w3 ⟨a,k,L,hL,rfl,o3,b3⟩;have S3:=hid (SA.out.below b3);have wk3:=S3.out.wk;rw[el]at wk3;have gl3:g<((n1:World).drew).heap.size:=Nat.lt_of_lt_of_le gl1 BA.size;have c5:w3.cell? ⟨g,t*7+5,none⟩=some (.slice X.own.a X.own.n X.own.k):=(b3.cell (p:=⟨g,t*7+5,none⟩) gl3).trans ZA.out.2;have Z3:Hid ((fun W=>Ah W P n2/\W.cell? ⟨g,t*7+5,none⟩=some (.slice X.own.a X.own.n X.own.k)) w3):=hid ⟨wk3,c5⟩;have cap:=Dm o3;have dn:=o3.new (Nat.le_trans cap.1 cap.2);obtain⟨S4,hBg,cur,hcu⟩:=SA.out.setOwn S3 (d:=⟨a,L.length,k,AX L⟩) (by rw[el];exact ht) (X:=⟨X.id,X.b1,X.c1,X.b2,X.c2,X.own,X.made+1⟩) (by simp) dn cap sz;rw[List.set_set]at S4;have S4':=hid S4;have gf:=hcu.jC;have B3:=hid (A1.out.trans (b3.mono sz));have HL:=hid hL;have KK:=hK;refine KK _ _ (fun _=>Z3) ?_;clear hK KK K S4 dn o3 b3 wk3 hL;simp only[ap,List.set];refine Ac (i:=14) (by kernel_rfl) rfl ?_;intro K hK;go_simp;refine hK _ _ (fun _=>Z3) ?_;clear hK K;try simp only[ap,List.set]
 refine Ac (i:=15) (by kernel_rfl) rfl ?_;intro K hK;go_simp;refine hK _ _ (fun _=>Z3) ?_;clear hK K;try simp only[ap,List.set]
 refine Ac (i:=16) (by kernel_rfl) rfl ?_;intro K hK;go_simp;refine hK _ _ (fun h=>absurd h (by decide)) ?_;clear hK K;try simp only[Act.put]
 refine Ai (by kernel_rfl) ?_ _;have B4:=hid (B3.out.setCell (p:=⟨g,t*7+5,none⟩) hBg (.slice a L.length k));go_wp2_with fail
 refine(HD _ B4).mono ?_;rintro e w5 ⟨rfl,b5⟩;have S5:=hid (S4'.out.below b5);have B5:=hid (B4.out.trans (b5.mono (Nat.le_trans hB B4.out.size)));clear b5;go_wp2;go_ret2;exact⟨a,k,L,HL,rfl,S5,B5⟩
def Et(kind:Int):Nat:=if kind=1 then 177 else if kind=2 then 179 else if kind=3 then 181 else 183
theorem IZ(w:World)(B P:Nat)(s:Al)(g ca q co:Nat)(lt:List Ae)(lo:List Ab)(t c C n:Nat)(ids:Nat->Int)(nb:Nat->Nat)(kv:Nat->Value)(K:Nat->List Int)(h:Ew w B P s g ca q co lt lo t (.map (some c)))(hn:DW w C c n ids q 0 nb kv K)(hl:n<=lo.length)(hd:∀x∈lo,x.data.size<=maxLen)(id:Int)(hi:(Lit.int .i64 id).wf=true):
 Calls prog 121 #[.pointer P,.int .i64 id] w fun e w'=>((Bl ids n id=none/\e= .returned .nilIface)∨∃i,Bl ids n id=some i/\e= .returned (.iface (Et (Aa lo i).kind) (.agg #[.pointer (some ⟨q,i*10,none⟩)])))/\Below w w w':=by
 obtain⟨_,_,_,_,c13⟩:=h.wk.jZ;have LK:=hn.map.look hi;cases hf:Bl ids n id with
 |none=>
  rw[hf]at LK;simp only[Option.map_none]at LK;go_enter func121,ntmps121
  go_wp2;go_ret;exact⟨.inl ⟨by first|trivial|rfl,rfl⟩,Below.refl _ _⟩
 |some i=>
  rw[hf]at LK;simp only[Option.map_some]at LK;obtain⟨hin,_⟩:=AE hf;obtain⟨z0,z1⟩:=(hn.blk i hin).two;rw[Nat.zero_add]at z0;obtain⟨CW,gl⟩:=h.st.jF (t:=i) (by omega) hd;have eo:lo[i]'(by omega)=Aa lo i:=by simp[Aa,show i<lo.length by omega]
  rw[eo]at CW;have nl:nb i<w.heap.size:=(hn.blk i hin).lt;have k1:w.cell? ⟨q,i*10+1,none⟩=some (.int .i64 (Aa lo i).kind):=CW.c1;have n1:No (.cells #[.pointer (some ⟨q,i*10,none⟩)] 175):=⟨⟩;have e0:(w.alloc n1).cell? ⟨nb i,0,none⟩=some (.pointer (some ⟨q,i*10,none⟩)):=(((hn.blk i hin).alloc _).two.1).trans (by rw[Nat.zero_add]);have e1:(w.alloc n1).cell? ⟨q,i*10+1,none⟩=some (.int .i64 (Aa lo i).kind):=(CW.below gl (Be w _)).c1;have BL:=hid ((Below.refl w w).alloc nr n1);clear CW eo;obtain⟨kd,hk⟩:∃kd,(Aa lo i).kind=kd:=⟨_,rfl⟩;rw[hk]at k1 e1;have HK:=hid hk;clear hk;by_cases h1:kd=1
  ·subst h1;go_enter func121,ntmps121
   go_wp2;go_ret;exact⟨.inr ⟨i,rfl,by rw[HK.out];rfl⟩,BL⟩
  ·by_cases h2:kd=2
   ·subst h2;go_enter func121,ntmps121
    go_wp2;go_ret;exact⟨.inr ⟨i,rfl,by rw[HK.out];rfl⟩,BL⟩
   ·by_cases h3:kd=3
    ·subst h3;go_enter func121,ntmps121
     go_wp2;go_ret;exact⟨.inr ⟨i,rfl,by rw[HK.out];rfl⟩,BL⟩
    ·have ty:Et kd=183:=(by unfold Et;rw[if_neg h1,if_neg h2,if_neg h3]);go_enter func121,ntmps121
     go_wp2;go_ret;exact⟨.inr ⟨i,rfl,by rw[HK.out,ty];rfl⟩,BL⟩
theorem WG(E:Nat->Addr)(w:World)(B P:Nat)(s:Al)(g ca q co:Nat)(lt:List Ae)(lo:List Ab)(t:Nat)(m:Value)(h:Ew w B P s g ca q co lt lo t m)(he:Ks w E)(h14:14<=B)(hB:B<=w.heap.size)(ht:t<lt.length)(X:Ae)(hX:X=lt[t])(u:Nat)(hu:u<lo.length)(O:Ab)(hO:O=lo[u])(hd:∀x∈lo,x.data.size<=maxLen)(fl:Bool)
 (FL:∀W,Below w w W->Calls prog 118 #[.agg #[X.b1,X.c1],X.own,.agg #[O.b2,O.c2]] W fun e w'=>e= .returned (.bool fl)/\Below W W w')(hn:X.own.n<=1000)(hm:O.own.n<=1000)(L:List Int)(hL:L=Lib.compact (Cy ((List.range X.own.n).map X.own.h++(List.range O.own.n).map O.own.h))):
 Calls prog 127 #[.pointer P,.agg #[.pointer (some ⟨q,u*10,none⟩)]] w fun e w'=>∃(v:Value) (x:Ae) (c:Int),e= .returned v/\Ew w' B P s g ca q co (lt.set t x) lo t m/\Below B w w'/\Told w' B E v c/\((c=4/\fl=false/\x=X)∨(c=5/\fl=true/\10<L.length/\x=X)∨(c=0/\fl=true/\¬10<L.length/\∃(a:Option Addr) (cc:Nat),x=⟨X.id,X.b1,X.c1,X.b2,X.c2,⟨a,L.length,cc,AX L⟩,X.made⟩)):=by
 obtain⟨CW,gl⟩:=h.st.jJ ht;rw[<-hX]at CW;obtain⟨CO,ql⟩:=h.st.jF hu hd;rw[<-hO]at CO;have XN:=hid (show X.new B w by rw[hX];exact h.st.tn _ (List.getElem_mem ht));have ON:=hid (show O.new B w by rw[hO];exact h.st.on _ (List.getElem_mem hu));have HW:=hid h;have HE:=hid he;have HX:=hid hX;have HFL:=hid FL;have HL:=hid hL;have n1:Nw (w.alloc (.cells #[.pointer (some ⟨q,u*10,none⟩)] 183)):=⟨⟩;have b0:Below w w n1:=Be w _;have B0:=hid b0;have n5:Nv (.pointer (some ⟨q,u*10,none⟩)):=⟨⟩;have c0:(n1:World).cell? ⟨w,0,none⟩=some (.pointer (some ⟨q,u*10,none⟩)):=by go_simp
 have BX:Hid (∀W,Below (n1:World).heap.size n1 W->Ah W P (.cells (If s g lt.length ca q lo.length co t m) 91)/\Fg W g (t*7) X/\CZ W q (u*10) O/\W.cell? ⟨w,0,none⟩=some (.pointer (some ⟨q,u*10,none⟩))):=hid (fun W hW=>⟨(HW.out.wk.below B0).below hW,(CW.below gl B0).below (Nat.lt_of_lt_of_le gl B0.out.size) hW,(CO.below ql B0).below (Nat.lt_of_lt_of_le ql B0.out.size) hW,(hW.cell (p:=⟨w,0,none⟩) (by simp)).trans c0⟩);have EF:Hid (∀args w,(callFunc 118 args).run prog w= .ok (.enter 118 args) w):=hid (enters_of func118 (by kernel_rfl) rfl);have ET:Hid (∀args w,(callFunc 106 args).run prog w= .ok (.enter 106 args) w):=hid (enters_of func106 (by kernel_rfl) rfl);have D0:=hid (Below.refl (n1:World).heap.size n1).drew;have n7:Na #[X.b1,X.c1]:=⟨⟩;have n8:Na #[O.b2,O.c2]:=⟨⟩;have P1:Hid (Calls prog 118 #[.agg n7,X.own,.agg n8] (n1:World).drew fun e w'=>∃v,e= .returned v/\(v= .bool fl/\Below (n1:World).drew.heap.size (n1:World).drew w')):=hid ((HFL _ (Af B0 D0)).mono fun _ _ h=>⟨_,h.1,rfl,h.2⟩);clear h he hX FL CW CO hO c0 b0 hL hd;go_enter func127,ntmps127
 go_upto_region 1 with fail
 refine Am 22 (fun W=>Below (n1:World).heap.size n1 W) (by kernel_rfl) ?_;have n3:Nv (.pointer P):=⟨⟩;refine tr 0 6 n3 D0 ?_;refine tr 1 7 n3 D0 ?_;have n6:Nv (.pointer (some ⟨P,12,none⟩)):=⟨⟩;refine tr 2 8 n6 D0 ?_;have n2:Nv (.pointer (some ⟨g,t*7,none⟩)):=⟨⟩;refine tr 3 9 n2 D0 ?_ (hy:=fun W h=>by obtain⟨⟨k0,k1,k2,k3,k4,k5,k6,k7,k8,k9⟩,k10,k11,k12,k13⟩:=(BX W h).1.jZ;go_simp);refine tr 4 10 n2 D0 ?_;refine tr 5 11 (.pointer (some ⟨g,t*7+1,none⟩)) D0 ?_;refine tr 6 12 (.agg n7) D0 ?_ (hy:=fun W h=>by have C:=(BX W h).2.1;have y1:W.cell? ⟨g,t*7+1,none⟩=some (.int .i64 X.b1):=C.c1;have y2:W.cell? ⟨g,t*7+1+1,none⟩=some (.slice X.c1.a X.c1.n X.c1.k):=C.c2;go_simp);refine tr 7 13 n3 D0 ?_;refine tr 8 14 n3 D0 ?_;refine tr 9 15 n6 D0 ?_;refine tr 10 16 n2 D0 ?_ (hy:=fun W h=>by obtain⟨⟨k0,k1,k2,k3,k4,k5,k6,k7,k8,k9⟩,k10,k11,k12,k13⟩:=(BX W h).1.jZ;go_simp);refine tr 11 17 n2 D0 ?_;have n9:Nv (.pointer (some ⟨g,t*7+5,none⟩)):=⟨⟩;refine tr 12 18 n9 D0 ?_;refine tr 13 19 (.slice X.own.a X.own.n X.own.k) D0 ?_ (hy:=fun W h=>by have C:=(BX W h).2.1;have y5:W.cell? ⟨g,t*7+5,none⟩=some (.slice X.own.a X.own.n X.own.k):=C.c5;go_simp);have n4:Nv (.pointer (w)):=⟨⟩;refine tr 14 20 n4 D0 ?_;refine tr 15 21 n4 D0 ?_;refine tr 16 22 n5 D0 ?_ (hy:=fun W h=>by have y:=(BX W h).2.2.2;go_simp);refine tr 17 23 n5 D0 ?_;refine tr 18 24 (.pointer (some ⟨q,u*10+8,none⟩)) D0 ?_;refine tr 19 25 (.agg n8) D0 ?_ (hy:=fun W h=>by have C:=(BX W h).2.2.1;have y1:W.cell? ⟨q,u*10+8,none⟩=some (.int .i64 O.b2):=C.c8;have y2:W.cell? ⟨q,u*10+8+1,none⟩=some (.slice O.c2.a O.c2.n O.c2.k):=C.c9;go_simp);refine Ac (i:=20) (by kernel_rfl) rfl ?_;intro K hK;refine Df (by rfl) 118 _ _ _ _ (by rfl) EF _ _ _ (by rfl) (by rfl) (by rfl) (some 26) (by rfl) _ P1 ?_;rintro v w1 ⟨rfl,b1⟩;have V1:=hid (Af D0 b1);refine hK _ _ (fun _=>V1) ?_;clear hK K b1;simp only[ap,List.set];refine tr 21 27 (.bool (!fl)) V1 ?_;refine Ai (by kernel_rfl) ?_ _;have A1:=hid (Af B0 V1);have H1:=hid (HW.out.below A1);cases fl with
 |false=>
  have e9:=(HE.out.below h14 (A1.out.mono hB) 9 (by omega) (by omega)).1;go_wp2_with fail
  refine(Bq 257 (.pointer (some (E 9))) w1).mono ?_;rintro e w2 ⟨rfl,rfl⟩;go_wp2;go_ret;have b2:Below w1 w1 (w1.alloc (.cells #[.int .i64 4,.iface 257 (.pointer (some (E 9)))] 54)):=Be w1 _;refine⟨_,rfl,X,by rw[HX.out,Fi];exact H1.out.below b2,(Af A1 b2).mono hB,4,.inr ⟨by decide,_,9,rfl,Ah.new w1 _,by decide,by decide,by decide,Nat.le_trans hB A1.out.size⟩,⟨rfl,rfl⟩⟩
 |true=>
  go_upto_region 3 with fail
  have D2:=hid V1.out.drew;have A2:=hid (Af B0 D2);have H2:=hid (HW.out.below A2);have P2:Hid (Calls prog 106 #[X.own,O.own] w1.drew fun e w'=>∃v,e= .returned v/\∃(a:Option Addr) (k:Nat),v= .slice a L.length k/\Az w' w1.drew.heap.size (.slice a L.length k) L/\Below w1.drew.heap.size w1.drew w'):=hid ((Kz X.own O.own w1.drew (XN.out.2.2.1.below A2) (ON.out.2.2.1.1.below A2) hn hm).mono fun e w' hh=>by
   obtain⟨a,k,L',h1,rfl,h3,h4⟩:=hh;rw[<-HL.out]at h1;subst h1;exact⟨_,rfl,a,k,rfl,h3,h4⟩)
  refine Am 15 (fun W=>Below (n1:World).heap.size n1 W) (by kernel_rfl) ?_;refine tr 0 30 n3 D2 ?_;refine tr 1 31 n3 D2 ?_;refine tr 2 32 n6 D2 ?_;refine tr 3 33 n2 D2 ?_ (hy:=fun W h=>by obtain⟨⟨k0,k1,k2,k3,k4,k5,k6,k7,k8,k9⟩,k10,k11,k12,k13⟩:=(BX W h).1.jZ;go_simp);refine tr 4 34 n2 D2 ?_;refine tr 5 35 n9 D2 ?_;refine tr 6 36 (.slice X.own.a X.own.n X.own.k) D2 ?_ (hy:=fun W h=>by have C:=(BX W h).2.1;have y5:W.cell? ⟨g,t*7+5,none⟩=some (.slice X.own.a X.own.n X.own.k):=C.c5;go_simp);refine tr 7 37 n4 D2 ?_;refine tr 8 38 n4 D2 ?_;refine tr 9 39 n5 D2 ?_ (hy:=fun W h=>by have y:=(BX W h).2.2.2;go_simp);refine tr 10 40 n5 D2 ?_;refine tr 11 41 (.pointer (some ⟨q,u*10+7,none⟩)) D2 ?_;refine tr 12 42 (.slice O.own.a O.own.n O.own.k) D2 ?_ (hy:=fun W h=>by have C:=(BX W h).2.2.1;have y5:W.cell? ⟨q,u*10+7,none⟩=some (.slice O.own.a O.own.n O.own.k):=C.c7;go_simp);refine Ac (i:=13) (by kernel_rfl) rfl ?_;intro K hK;refine AJ (by rfl) 106 _ _ _ (by rfl) ET _ _ (by rfl) (by rfl) (some 43) (by rfl) _ P2 ?_;rintro v w3 ⟨a,k,rfl,o3,b3⟩;have V3:=hid (Af D2 b3);refine hK _ _ (fun _=>V3) ?_;clear hK K;simp only[ap,List.set];refine tr 14 5 (.slice a L.length k) V3 ?_;refine Ai (by kernel_rfl) ?_ _;have A3:=hid (Af B0 V3);have H3:=hid (HW.out.below A3);have sz:B<=w1.drew.heap.size:=Nat.le_trans hB A2.out.size;by_cases hl:10<L.length
  ·have i1:(10:Int)<(L.length:Int):=(by omega);have e5:=(HE.out.below h14 (A3.out.mono hB) 5 (by omega) (by omega)).1;have LH:=hid hl;clear o3 b3 hl;go_wp2_with fail
   refine(CR 5 257 (.pointer (some (E 5))) w3).mono ?_;rintro e w2 ⟨rfl,rfl⟩;go_wp2;go_ret;have b2:Below w3 w3 (w3.alloc (.cells #[.int .i64 5,.iface 257 (.pointer (some (E 5)))] 54)):=Be w3 _;refine⟨_,rfl,X,by rw[HX.out,Fi];exact H3.out.below b2,(Af A3 b2).mono hB,5,.inr ⟨by decide,_,5,rfl,Ah.new w3 _,by decide,by decide,by decide,Nat.le_trans hB A3.out.size⟩,.inl ⟨rfl,LH,rfl⟩⟩
  ·have i1:¬(10:Int)<(L.length:Int):=(by omega);have LH:=hid hl;have cap:=Dm o3;have dn:=o3.new (Nat.le_trans cap.1 cap.2);obtain⟨S4,hBg,cur,hcu⟩:=H2.out.setOwn H3 (d:=⟨a,L.length,k,AX L⟩) ht HX dn cap sz;have S4':=hid S4;have gf:=hcu.jC;obtain⟨⟨k0,k1,k2,k3,k4,k5,k6,k7,k8,k9⟩,k10,k11,k12,k13⟩:=H3.out.wk.jZ;have c5:w3.cell? ⟨g,t*7+5,none⟩=some (.slice X.own.a X.own.n X.own.k):=(BX _ V3).2.1.c5;clear o3 b3 hl S4 dn cap;go_wp2;go_ret;exact⟨_,rfl,_,S4',(A3.out.mono hB).setCell hBg _,0,.inl ⟨rfl,rfl⟩,.inr ⟨rfl,Nat.not_lt.1 LH,a,k,rfl⟩⟩
section
variable {wr:World}{B P g ca q co t:Nat}{s:Al}{lt:List Ae}{lo:List Ab}{m:Value}
theorem Ew.setQ(h:Ew wr B P s g ca q co lt lo t m):P≠q:=fun e=>by
 have ho:=h.st.o;rcases ho.2 with⟨hv,_⟩|⟨g',cap,cur,hv,_,hgg,_⟩
 ·cases hv
 ·cases hv;have hw:=h.wk;unfold Ah at hw;rw[e,hgg]at hw;simp at hw
theorem Ew.setData(h:Ew wr B P s g ca q co lt lo t m){d:ByteArray}{u:Nat}(hu:u<lo.length){O:Ab}(hO:O=lo[u]):
 Ew (wr.setCell ⟨q,u*10+5,none⟩ (.string d)) B P s g ca q co lt (lo.set u ⟨O.id,O.kind,O.up,O.b1,O.c1,d,O.jA,O.own,O.b2,O.c2⟩) t m/\B<=q/\∃cur,Ah wr q (.cells cur 63):=by
 obtain⟨k1,⟨cur,hc⟩,hg⟩:=h.st.setData (d:=d) hu hO;have el:(lo.set u (⟨O.id,O.kind,O.up,O.b1,O.c1,d,O.jA,O.own,O.b2,O.c2⟩:Ab)).length=lo.length:=by simp
 have hn:O.cb.Nodup:=Dh (L:=lo.map Ab.cb) (S:=(lt.map Ae.cb).flatten) (t:=u) (by simp[hu,hO]) (List.perm_append_comm.nodup_iff.2 h.ap.c);have hi:O.own.bs.Nodup:=Dh (L:=lo.map fun x=>x.own.bs) (S:=(lt.map fun x=>x.own.bs).flatten) (t:=u) (by simp[hu,hO]) (List.perm_append_comm.nodup_iff.2 h.ap.i);have hs:O.jA.bs.Nodup:=Dh (L:=lo.map fun x=>x.jA.bs) (S:=[]) (t:=u) (by simp[hu,hO]) (by rw[List.append_nil];exact h.ap.s);exact⟨⟨by rw[el];exact k1,h.ap.setO h.st hu (x:=⟨O.id,O.kind,O.up,O.b1,O.c1,d,O.jA,O.own,O.b2,O.c2⟩) hn (fun b hb=> .inl (by rw[<-hO];exact hb)) hi (fun b hb=> .inl (by rw[<-hO];exact hb)) hs (fun b hb=> .inl (by rw[<-hO];exact hb)),by rw[el];exact h.wk.other (Ne.symm h.setQ) _,h.lp⟩,hg,cur,hc⟩
theorem Lw(w:World)(B P:Nat)(s:Al)(g ca q co:Nat)(lt:List Ae)(lo:List Ab)(t:Nat)(m:Value)(h:Ew w B P s g ca q co lt lo t m)(hB:B<=w.heap.size)(u:Nat)(hu:u<lo.length)(O:Ab)(hO:O=lo[u])(hd:∀x∈lo,x.data.size<=maxLen)(hk:s.kind=6):
 Calls prog 124 #[.pointer P,.agg #[.pointer (some ⟨q,u*10,none⟩)]] w fun e w'=>e= .returned (.tuple #[.string ⟨#[]⟩,.nilIface])/\Ew w' B P s g ca q co lt (lo.set u ⟨O.id,O.kind,O.up,O.b1,O.c1,s.data,O.jA,O.own,O.b2,O.c2⟩) t m/\Below B w w':=by
 obtain⟨CO,ql⟩:=h.st.jF hu hd;rw[<-hO]at CO;have n1:Nw (w.alloc (.cells #[.pointer (some ⟨q,u*10,none⟩)] 177)):=⟨⟩;have b0:Below w w n1:=Be w _;have c0:(n1:World).cell? ⟨w,0,none⟩=some (.pointer (some ⟨q,u*10,none⟩)):=by go_simp
 obtain⟨⟨k0,k1,k2,k3,k4,k5,k6,k7,k8,k9⟩,k10,k11,k12,k13⟩:=(h.wk.below b0).jZ;have y5:(n1:World).cell? ⟨q,u*10+5,none⟩=some (.string O.data):=(CO.below ql b0).c5;have HA:=hid (h.below b0);have B0:=hid b0;have HO:=hid hO;rw[hk]at k1;have z0:(n1:World).drew.cell? ⟨w,0,none⟩=some (.pointer (some ⟨q,u*10,none⟩)):=c0;have z5:(n1:World).drew.cell? ⟨q,u*10+5,none⟩=some (.string O.data):=y5;have zk:(n1:World).drew.cell? ⟨P,5,none⟩=some (.string s.data):=k5;have HD:=hid (HA.out.below (Below.refl _ _).drew);obtain⟨S1,hg,cur,hcu⟩:=HD.out.setData (d:=s.data) hu HO.out;have S1':=hid S1;have gf:=hcu.jC;have B1:=hid (((B0.out.drew).mono hB).setCell (p:=⟨q,u*10+5,none⟩) hg (.string s.data));clear h hO CO b0 S1 hk;go_enter func124,ntmps124
 go_upto_region 3 with fail
 generalize (n1:World)=V at *;go_region_law fail
 all_goals(
  go_wp2;go_ret2;exact⟨rfl,S1',B1⟩)
theorem MJ(w:World)(B P:Nat)(s:Al)(g ca q co:Nat)(lt:List Ae)(lo:List Ab)(t:Nat)(m:Value)(h:Ew w B P s g ca q co lt lo t m)(hB:B<=w.heap.size)(u:Nat)(hu:u<lo.length)(O:Ab)(hO:O=lo[u])(hd:∀x∈lo,x.data.size<=maxLen)(hk:s.kind=7):
 Calls prog 124 #[.pointer P,.agg #[.pointer (some ⟨q,u*10,none⟩)]] w fun e w'=>e= .returned (.tuple #[.string O.data,.nilIface])/\Ew w' B P s g ca q co lt lo t m/\Below B w w':=by
 obtain⟨CO,ql⟩:=h.st.jF hu hd;rw[<-hO]at CO;have n1:Nw (w.alloc (.cells #[.pointer (some ⟨q,u*10,none⟩)] 177)):=⟨⟩;have b0:Below w w n1:=Be w _;have c0:(n1:World).cell? ⟨w,0,none⟩=some (.pointer (some ⟨q,u*10,none⟩)):=by go_simp
 obtain⟨⟨k0,k1,k2,k3,k4,k5,k6,k7,k8,k9⟩,k10,k11,k12,k13⟩:=(h.wk.below b0).jZ;have y5:(n1:World).cell? ⟨q,u*10+5,none⟩=some (.string O.data):=(CO.below ql b0).c5;have HA:=hid (h.below b0);have B0:=hid b0;have HO:=hid hO;rw[hk]at k1;have B1:=hid (B0.out.mono hB);clear h hO CO b0 hk;go_enter func124,ntmps124
 go_wp2;go_ret2;exact⟨rfl,HA,B1⟩
theorem MQ(w:World)(B P:Nat)(s:Al)(g ca q co:Nat)(lt:List Ae)(lo:List Ab)(t:Nat)(m:Value)(h:Ew w B P s g ca q co lt lo t m)(u:Nat)(hu:u<lo.length)(O:Ab)(hO:O=lo[u])(hd:∀x∈lo,x.data.size<=maxLen)(hk:s.kind=8)(R:Value->World->Prop)
 (CT:Calls prog 140 #[.pointer P,.agg #[.pointer (some ⟨q,u*10,none⟩)]] (w.alloc (.cells #[.pointer (some ⟨q,u*10,none⟩)] 177)) fun e w'=>∃v,e= .returned v/\R v w'):
 Calls prog 124 #[.pointer P,.agg #[.pointer (some ⟨q,u*10,none⟩)]] w fun e w'=>∃v,e= .returned (.tuple #[.string ⟨#[]⟩,v])/\R v w':=by
 obtain⟨CO,ql⟩:=h.st.jF hu hd;rw[<-hO]at CO;have n1:Nw (w.alloc (.cells #[.pointer (some ⟨q,u*10,none⟩)] 177)):=⟨⟩;have b0:Below w w n1:=Be w _;have c0:(n1:World).cell? ⟨w,0,none⟩=some (.pointer (some ⟨q,u*10,none⟩)):=by go_simp
 obtain⟨⟨k0,k1,k2,k3,k4,k5,k6,k7,k8,k9⟩,k10,k11,k12,k13⟩:=(h.wk.below b0).jZ;have y5:(n1:World).cell? ⟨q,u*10+5,none⟩=some (.string O.data):=(CO.below ql b0).c5;have HA:=hid (h.below b0);have B0:=hid b0;have HO:=hid hO;rw[hk]at k1;have HC:=hid CT;clear h hO CO b0 hk CT;go_enter func124,ntmps124
 go_wp2_with fail
 refine HC.out.mono ?_;rintro e w1 ⟨v,rfl,r⟩;have HR:=hid r;clear r;go_wp2;go_ret2;exact⟨v,rfl,HR⟩
end
section
variable {w w':World}{B:Nat}{row:Option Nat}
theorem Au.new.jY{c:Au}(h:c.new B w)(hr:∀b,row=some b->∃m F,w.rowIs b 9 m F)(hg:w.grownBy w' row):c.new B w':=h.of hg.size (fun b' e hn=>by
 obtain⟨b'',m',F',e',_,_,hr'⟩:=h.2 hn;rw[e]at e';cases e';refine hg.block b' hr'.lt (fun ee=>?_);obtain⟨m,F,h9⟩:=hr b' ee.symm;exact Ff hr' h9 (by decide) rfl)
theorem AI.new.jY{c:AI}(h:c.new B w)(hr:∀b,row=some b->∃m F,w.rowIs b 9 m F)(hg:w.grownBy w' row):c.new B w':=h.of hg.size (fun b' e hn=>by
 obtain⟨b'',m',F',e',_,_,hr'⟩:=h.2 hn;rw[e]at e';cases e';refine hg.block b' hr'.lt (fun ee=>?_);obtain⟨m,F,h9⟩:=hr b' ee.symm;exact Ff hr' h9 (by decide) rfl)
theorem AF.new.jY{c:AF}(h:c.new B w)(hr:∀b,row=some b->b∉c.bs)(hg:w.grownBy w' row):c.new B w':=h.of hg.size (fun b' e h0=>by
 obtain⟨b'',m',F',e',_,_,hr'⟩:=h.2 h0;rw[e]at e';cases e';refine hg.block b' hr'.lt (fun ee=>hr b' ee.symm ?_);unfold AF.bs;rw[if_pos h0,e];simp)
end
theorem By.itemRow{w w':World}{B q co:Nat}{vt:Value}{row:Option Nat}{lt:List Ae}{lo:List Ab}(h:By w B vt (.slice q lo.length co) lt lo)(ha:Apart lt lo){u:Nat}(hu:u<lo.length){O:Ab}(hO:O=lo[u])(hr:∀b,row=some b->b∈O.jA.bs/\∃m F,w.rowIs b 9 m F)(hg:w.grownBy w' row){d:AF}(hd:d.new B w')(hdc:d.n<=d.k/\d.k<=maxLen):
 By (w'.setCell ⟨q,u*10+6,none⟩ (.slice d.a d.n d.k)) B vt (.slice q lo.length co) lt (lo.set u ⟨O.id,O.kind,O.up,O.b1,O.c1,O.data,d,O.own,O.b2,O.c2⟩)/\(∃cur,Ah w' q (.cells cur 63))/\B<=q:=by
 have hx:=h.on _ (List.getElem_mem hu);rw[<-hO]at hx;have h9:∀b,row=some b->∃m F,w.rowIs b 9 m F:=fun b e=>(hr b e).2;have other:∀{v:Value}{ty:TypeId}{sz n:Nat}{cs:List Value},w.ownsRow B ty sz v n cs->ty≠9->v.ownBlock=none∨v.ownBlock≠row:=fun{v ty sz n cs} ho hty=>by
  rcases ho.2 with⟨hv,_⟩|⟨g',cap,cur,hv,_,hgg,_⟩
  ·exact .inl (by rw[hv];rfl)
  ·refine .inr (fun e=>hty ?_);rw[hv]at e;obtain⟨m,F,c,hc,_⟩:=h9 g' (by rw[<-e];rfl);rw[hgg]at hc;simp at hc;exact hc.2
 have it:(lo.map fun x=>x.jA.bs)[u]? =some O.jA.bs:=by simp[hu,hO]
 have kt:Dn w' B vt lt:=World.ownsRow.kept h.t hg (other h.t (by decide));have ko:AO w' B (.slice q lo.length co) lo:=World.ownsRow.kept h.o hg (other h.o (by decide));have ton:∀y∈lt,y.new B w':=fun y hy=>⟨(h.tn y hy).1.jY h9 hg,(h.tn y hy).2.1.jY h9 hg,(h.tn y hy).2.2.jY h9 hg⟩;have oon:∀j (hj:j<lo.length),j≠u->(lo[j]).new B w':=fun j hj ne=>by
  have hy:=h.on _ (List.getElem_mem hj);refine⟨hy.1.jY h9 hg,hy.2.1.jY (fun b e hb=>?_) hg,hy.2.2.1.jY h9 hg,hy.2.2.2.jY h9 hg⟩;exact MW ha.s (i:=j) (j:=u) (by simp[hj]) it ne hb (hr b e).1
 obtain⟨cur,hcur⟩:∃cur,Ah w' q (.cells cur 63):=by
  rcases ko.2 with⟨hv,_⟩|⟨g',cap,cur,hv,_,hgg,_⟩
  ·cases hv
  ·cases hv;exact⟨cur,hgg⟩
 have hBg:B<=q:=(World.ownsRow.lt ko q rfl).1;have kl:=As (i:=u*10+6) hcur (by decide) (.slice d.a d.n d.k);have ho:=(World.ownsRow.stored ko (u*10+6) (.slice d.a d.n d.k)).1;have hxn:(⟨O.id,O.kind,O.up,O.b1,O.c1,O.data,d,O.own,O.b2,O.c2⟩:Ab).new B w':=⟨hx.1.jY h9 hg,hd,hx.2.2.1.jY h9 hg,hx.2.2.2.jY h9 hg⟩;refine⟨⟨kt.set hcur (by decide) _,?_,fun y hy=>(ton y hy).keeps kl,fun y hy=>?_,h.tc,fun y hy=>?_⟩,⟨cur,hcur⟩,hBg⟩
 ·unfold AO;have e:=Db (f:=Ab.cs) Ab.jK (l:=lo) (t:=u) (x:=(⟨O.id,O.kind,O.up,O.b1,O.c1,O.data,d,O.own,O.b2,O.c2⟩:Ab)) (u:= .slice d.a d.n d.k) (i:=6) hu (by omega) (by rw[<-hO];rfl);have el:(lo.set u (⟨O.id,O.kind,O.up,O.b1,O.c1,O.data,d,O.own,O.b2,O.c2⟩:Ab)).length=lo.length:=by simp
  rw[el];unfold Aw;rw[<-e];exact ho
 ·obtain⟨j,hj,rfl⟩:=List.getElem_of_mem hy;rw[List.getElem_set];split
  ·exact hxn.keeps kl
  ·exact(oon j (by simpa using hj) (by omega)).keeps kl
 ·rcases Eu hy with rfl|hy
  ·exact hdc
  ·exact h.oc y hy
theorem Ew.itemRow{w w':World}{B P:Nat}{s:Al}{g ca q co:Nat}{lt:List Ae}{lo:List Ab}{t:Nat}{m:Value}{row:Option Nat}(h:Ew w B P s g ca q co lt lo t m){u:Nat}(hu:u<lo.length){O:Ab}(hO:O=lo[u])(hr:∀b,row=some b->b∈O.jA.bs/\∃m F,w.rowIs b 9 m F)(hg:w.grownBy w' row){d:AF}(hd:d.new B w')(hdc:d.n<=d.k/\d.k<=maxLen)(hdb:∀b∈d.bs,b∈O.jA.bs∨w.heap.size<=b):
 Ew (w'.setCell ⟨q,u*10+6,none⟩ (.slice d.a d.n d.k)) B P s g ca q co lt (lo.set u ⟨O.id,O.kind,O.up,O.b1,O.c1,O.data,d,O.own,O.b2,O.c2⟩) t m/\(∃cur,Ah w' q (.cells cur 63))/\B<=q/\Ah w' P (.cells (If s g lt.length ca q lo.length co t m) 91)/\(∀b,row=some b->B<=b/\b≠q/\b≠P):=by
 obtain⟨k1,hcu,hBg⟩:=h.st.itemRow h.ap hu hO hr hg hd hdc;have el:(lo.set u (⟨O.id,O.kind,O.up,O.b1,O.c1,O.data,d,O.own,O.b2,O.c2⟩:Ab)).length=lo.length:=by simp
 have hn:O.cb.Nodup:=Dh (L:=lo.map Ab.cb) (S:=(lt.map Ae.cb).flatten) (t:=u) (by simp[hu,hO]) (List.perm_append_comm.nodup_iff.2 h.ap.c);have hi:O.own.bs.Nodup:=Dh (L:=lo.map fun x=>x.own.bs) (S:=(lt.map fun x=>x.own.bs).flatten) (t:=u) (by simp[hu,hO]) (List.perm_append_comm.nodup_iff.2 h.ap.i);have hx:=h.st.on _ (List.getElem_mem hu);rw[<-hO]at hx;have rw_:∀b,row=some b->B<=b/\b≠q/\b≠P:=fun b e=>by
  obtain⟨h1,m',F,c,hc,_⟩:=hr b e;refine⟨(hx.2.1.bs.2 b h1).1,fun e'=>?_,fun e'=>?_⟩
  ·rcases h.st.o.2 with⟨hv,_⟩|⟨g',cap,cur',hv,_,hgg,_⟩
   ·cases hv
   ·cases hv;rw[<-e',hc]at hgg;simp at hgg
  ·have hw:=h.wk;unfold Ah at hw;rw[<-e',hc]at hw;simp at hw
 have wk:Ah w' P (.cells (If s g lt.length ca q lo.length co t m) 91):=h.wk.grown hg (fun e=>(rw_ P e.symm).2.2 rfl);exact⟨⟨by rw[el];exact k1,h.ap.setO h.st hu (x:=⟨O.id,O.kind,O.up,O.b1,O.c1,O.data,d,O.own,O.b2,O.c2⟩) hn (fun b hb=> .inl (by rw[<-hO];exact hb)) hi (fun b hb=> .inl (by rw[<-hO];exact hb)) hd.bs.1 (fun b hb=>by rw[<-hO];exact hdb b hb),by rw[el];exact wk.other (Ne.symm h.setQ) _,h.lp⟩,hcu,hBg,wk,rw_⟩
def AF.jH(B:Nat)(w:World)(c:AF):Prop:=c.at w/\(0<c.n->∃b off m F,c.a=some ⟨b,off,none⟩/\B<=b/\off+c.n<=m/\w.rowIs b 9 m F)
theorem AF.new.f{B:Nat}{w:World}{c:AF}(h:c.new B w):c.jH B w:=⟨h.1,fun h0=>by
 obtain⟨b,m,F,e,h1,h2,h3⟩:=h.2 h0;exact⟨b,0,m,F,e,h1,by omega,h3⟩⟩
theorem AF.jH.of{B:Nat}{w w':World}{c:AF}(h:c.jH B w)(hs:w.heap.size<=w'.heap.size)(hb:∀b∈c.bs,w'.heap[b]? =w.heap[b]?):c.jH B w':=
 ⟨⟨h.1.1,fun hn=>by
   obtain⟨b,off,e,hlt,hc⟩:=h.1.2.1 hn;have hm:b∈c.bs:=(by unfold AF.bs;rw[if_pos hn,e];simp);exact⟨b,off,e,Nat.lt_of_lt_of_le hlt hs,fun i hi=>by rw[World.cell?_of_block (a:=⟨b,off+i,none⟩) (hb b hm)];exact hc i hi⟩,h.1.2.2⟩,fun hn=>by
   obtain⟨b,off,m,F,e,h1,h2,h3⟩:=h.2 hn;have hm:b∈c.bs:=(by unfold AF.bs;rw[if_pos hn,e];simp);exact⟨b,off,m,F,e,h1,h2,h3.of_block (hb b hm)⟩⟩
theorem AF.jH.lt{B:Nat}{w:World}{c:AF}(h:c.jH B w):∀b∈c.bs,B<=b/\b<w.heap.size:=fun b hb=>by
 unfold AF.bs at hb;split at hb
 ·rename_i h0;obtain⟨b',off,m,F,e,h1,_,h3⟩:=h.2 h0;rw[e]at hb;rw[List.mem_singleton.1 hb];exact⟨h1,h3.lt⟩
 ·cases hb
theorem AF.jH.below{B:Nat}{w w':World}{c:AF}(h:c.jH B w)(hb:Below w w w'):c.jH B w':=h.of hb.size (fun b hm=>hb.block b (h.lt b hm).2)
def Ab.jH(B:Nat)(w:World)(t:Ab):Prop:=t.c1.new B w/\t.jA.jH B w/\t.own.new B w/\t.c2.new B w
theorem Ab.jH.at{B:Nat}{w:World}{t:Ab}(h:t.jH B w)(hd:t.data.size<=maxLen):t.at w:=⟨h.1.1,h.2.1.1,h.2.2.1.1,h.2.2.2.1,hd⟩
structure Hg(w:World)(B:Nat)(vt vo:Value)(lt:List Ae)(lo:List Ab):Prop where
 t:Dn w B vt lt
 o:AO w B vo lo
 tn:∀x∈lt,x.new B w
 on:∀x∈lo,x.jH B w
theorem By.f{w:World}{B:Nat}{vt vo:Value}{lt:List Ae}{lo:List Ab}(h:By w B vt vo lt lo):Hg w B vt vo lt lo:=⟨h.t,h.o,h.tn,fun x hx=>⟨(h.on x hx).1,(h.on x hx).2.1.f,(h.on x hx).2.2⟩⟩
theorem Hg.below{w w':World}{B:Nat}{vt vo:Value}{lt:List Ae}{lo:List Ab}(h:Hg w B vt vo lt lo)(hb:Below w w w'):Hg w' B vt vo lt lo:=
 ⟨h.t.below hb,h.o.below hb,fun x hx=>(h.tn x hx).keeps (C9.of_below hb).l,fun x hx=>⟨(h.on x hx).1.below hb,(h.on x hx).2.1.below hb,(h.on x hx).2.2.1.below hb,(h.on x hx).2.2.2.below hb⟩⟩
structure Nc(wr:World)(B P:Nat)(s:Al)(g ca q co:Nat)(lt:List Ae)(lo:List Ab)(t:Nat)(m:Value):Prop where
 st:Hg wr B (.slice g lt.length ca) (.slice q lo.length co) lt lo
 ap:Apart lt lo
 wk:Ah wr P (.cells (If s g lt.length ca q lo.length co t m) 91)
theorem Ew.f{wr:World}{B P:Nat}{s:Al}{g ca q co:Nat}{lt:List Ae}{lo:List Ab}{t:Nat}{m:Value}(h:Ew wr B P s g ca q co lt lo t m):Nc wr B P s g ca q co lt lo t m:=⟨h.st.f,h.ap,h.wk⟩
theorem Nc.below{wr w':World}{B P:Nat}{s:Al}{g ca q co:Nat}{lt:List Ae}{lo:List Ab}{t:Nat}{m:Value}(h:Nc wr B P s g ca q co lt lo t m)(hb:Below wr wr w'):Nc w' B P s g ca q co lt lo t m:=⟨h.st.below hb,h.ap,h.wk.below hb⟩
theorem OV(tmps:Array Value)(W:World)(P:Nat)(x y:Value)(h:Ah W P (.cells #[x,y] 30))(h2:tmps[2]? =some (.pointer P)):
 (results Tryz.f134 tmps).run prog W= .ok (.agg #[x,y]) W:=by
 obtain⟨z0,z1⟩:=h.two;simp[results,Tryz.results134,go_sem,h2,z0,z1]
theorem Lp(q j:Nat)(b:Int)(c:Au)(w:World)(hq:q<w.heap.size)(h3:w.cell? ⟨q,j+3,none⟩=some (.int .i64 b))(h4:w.cell? ⟨q,j+3+1,none⟩=some (.slice c.a c.n c.k)):
 Calls prog 134 #[.agg #[.pointer (some ⟨q,j,none⟩)]] w fun e w'=>e= .returned (.agg #[.int .i64 b,c])/\Below w w w':=by
 have n1:Nw (w.alloc (.cells #[.pointer (some ⟨q,j,none⟩)] 175)):=⟨⟩;have n2:No (.cells #[.int .i64 0,.slice none 0 0] 30):=⟨⟩;have b0:Below w w ((n1:World).alloc n2):=(Be w _).alloc (by simp) _;have R0:Ah ((n1:World).alloc n2) (w.heap.size+1) n2:=by
  have:=Ah.new n1 n2;simpa using this
 have e3:=(b0.cell (p:=⟨q,j+3,none⟩) hq).trans h3;have e4:=(b0.cell (p:=⟨q,j+3+1,none⟩) hq).trans h4;obtain⟨r0,r1⟩:=R0.two;have rf:=R0.jC;clear R0 b0;go_enter func134,ntmps134
 go_wp2;refine bodyPost_ret (OV _ _ (w.heap.size+1) (.int .i64 b) (.slice c.a c.n c.k) (by have:=Ah.new n1 (.cells #[.int .i64 b,c] 30);simpa using this) rfl) rfl ⟨rfl,?_⟩;exact(Be w _).alloc (by simp) _
theorem Zw(x:TypeId)(w:World):(Instr.typeAssert .nilIface x 177 true).run prog w= .ok (.tuple #[.agg #[.pointer none],.bool false]) w:=by
 have hu:∀w,(underlying 177).run prog w= .ok _ w:=fun w=>by simp[underlying,go_sem,underlying177];rfl
 simp[Instr.typeAssert,go_sem,hu,zeroValue177]
theorem QA(x:TypeId)(v:Value)(w:World):(Instr.typeAssert (.iface 177 v) x 177 true).run prog w= .ok (.tuple #[v,.bool true]) w:=by
 have hu:∀w,(underlying 177).run prog w= .ok _ w:=fun w=>by simp[underlying,go_sem,underlying177];rfl
 simp[Instr.typeAssert,go_sem,hu]
theorem QY(x:TypeId)(t:TypeId)(v:Value)(w:World)(h:t≠177):(Instr.typeAssert (.iface t v) x 177 true).run prog w= .ok (.tuple #[.agg #[.pointer none],.bool false]) w:=by
 have hu:∀w,(underlying 177).run prog w= .ok _ w:=fun w=>by simp[underlying,go_sem,underlying177];rfl
 simp[Instr.typeAssert,go_sem,hu,zeroValue177,h]
theorem ZM(x:TypeId)(v:Value)(w:World):(Instr.typeAssert (.iface 179 v) x 179 true).run prog w= .ok (.tuple #[v,.bool true]) w:=by
 have hu:∀w,(underlying 179).run prog w= .ok _ w:=fun w=>by simp[underlying,go_sem,underlying179];rfl
 simp[Instr.typeAssert,go_sem,hu]
theorem Xb(x:TypeId)(t:TypeId)(v:Value)(w:World)(h:t≠179):(Instr.typeAssert (.iface t v) x 179 true).run prog w= .ok (.tuple #[.agg #[.pointer none],.bool false]) w:=by
 have hu:∀w,(underlying 179).run prog w= .ok _ w:=fun w=>by simp[underlying,go_sem,underlying179];rfl
 simp[Instr.typeAssert,go_sem,hu,zeroValue179,h]
theorem Zl(x:TypeId)(w:World):(Instr.typeAssert .nilIface x 181 true).run prog w= .ok (.tuple #[.agg #[.pointer none],.bool false]) w:=by
 have hu:∀w,(underlying 181).run prog w= .ok _ w:=fun w=>by simp[underlying,go_sem,underlying181];rfl
 simp[Instr.typeAssert,go_sem,hu,zeroValue181]
theorem Vv(x:TypeId)(v:Value)(w:World):(Instr.typeAssert (.iface 181 v) x 181 true).run prog w= .ok (.tuple #[v,.bool true]) w:=by
 have hu:∀w,(underlying 181).run prog w= .ok _ w:=fun w=>by simp[underlying,go_sem,underlying181];rfl
 simp[Instr.typeAssert,go_sem,hu]
theorem X4(x:TypeId)(t:TypeId)(v:Value)(w:World)(h:t≠181):(Instr.typeAssert (.iface t v) x 181 true).run prog w= .ok (.tuple #[.agg #[.pointer none],.bool false]) w:=by
 have hu:∀w,(underlying 181).run prog w= .ok _ w:=fun w=>by simp[underlying,go_sem,underlying181];rfl
 simp[Instr.typeAssert,go_sem,hu,zeroValue181,h]
theorem ZT(x:TypeId)(v:Value)(w:World):(Instr.typeAssert (.iface 183 v) x 183 true).run prog w= .ok (.tuple #[v,.bool true]) w:=by
 have hu:∀w,(underlying 183).run prog w= .ok _ w:=fun w=>by simp[underlying,go_sem,underlying183];rfl
 simp[Instr.typeAssert,go_sem,hu]
theorem Ah.sevenF{W:World}{P t:Nat}{x0 x1 x2 x3 x4 x5 x6:Value}(h:Ah W P (.cells #[x0,x1,x2,x3,x4,x5,x6] t)):W.cell? ⟨P,0,none⟩=some x0/\W.cell? ⟨P,1,none⟩=some x1/\W.cell? ⟨P,2,none⟩=some x2/\W.cell? ⟨P,3,none⟩=some x3/\W.cell? ⟨P,4,none⟩=some x4/\W.cell? ⟨P,5,none⟩=some x5/\W.cell? ⟨P,6,none⟩=some x6:=by
 unfold Ah at h;simp[World.cell?,h]
def Ma(id made b1:Int)(n1:Nat)(f1 g1:Nat->Int)(b2:Int)(n2:Nat)(f2 g2:Nat->Int)(n3:Nat)(h:Nat->Int)(bl:Int)(nl:Nat)(fl gl:Nat->Int):Bool:=
 Dq id made b1 n1 f1 g1 b2 n2 f2 g2 n3 h&&(AZ bl nl fl gl&&Cz bl nl fl gl n3 h b1 n1 f1 g1)
def NI(id made b1:Int)(n1:Nat)(f1 g1:Nat->Int)(b2:Int)(n2:Nat)(f2 g2:Nat->Int)(n3:Nat)(h:Nat->Int)(bl:Int)(nl:Nat)(fl gl:Nat->Int):Bool:=
 Dq id made b1 n1 f1 g1 b2 n2 f2 g2 n3 h&&(AZ bl nl fl gl&&Cz b1 n1 f1 g1 n3 h bl nl fl gl)
def Ky(id made b1:Int)(n1:Nat)(f1 g1:Nat->Int)(b2:Int)(n2:Nat)(f2 g2:Nat->Int)(n3:Nat)(h:Nat->Int)(bl:Int)(nl:Nat)(fl gl:Nat->Int):Bool:=
 Ma id made b1 n1 f1 g1 b2 n2 f2 g2 n3 h bl nl fl gl&&NI id made b1 n1 f1 g1 b2 n2 f2 g2 n3 h bl nl fl gl
theorem Of{id made b1:Int}{n1:Nat}{f1 g1:Nat->Int}{b2:Int}{n2:Nat}{f2 g2:Nat->Int}{n3:Nat}{h:Nat->Int}(t:Dq id made b1 n1 f1 g1 b2 n2 f2 g2 n3 h=true):AZ b1 n1 f1 g1=true/\AZ b2 n2 f2 g2=true/\BJ n3 h=true:=by
 simp only[Dq,Bool.and_eq_true]at t;exact⟨t.1.1.1.2,t.1.1.2,t.1.2⟩
theorem KC(id made b1:Int)(a1:Option Addr)(n1 k1:Nat)(f1 g1:Nat->Int)(b2:Int)(a2:Option Addr)(n2 k2:Nat)(f2 g2:Nat->Int)(a3:Option Addr)(n3 k3:Nat)(h:Nat->Int)(bl:Int)(al:Option Addr)(nl kl:Nat)(fl gl:Nat->Int)(w:World)(hn1:n1<=maxLen)(hn2:n2<=maxLen)(hn3:n3<=maxLen)(hc1:Ba w a1 n1 f1 g1)(hc2:Ba w a2 n2 f2 g2)(hc3:Bj w a3 n3 h)(hnl:nl<=maxLen)(hcl:Ba w al nl fl gl):
 Calls prog 122 #[.agg #[.int .i64 id,.int .i64 b1,.slice a1 n1 k1,.int .i64 b2,.slice a2 n2 k2,.slice a3 n3 k3,.int .i64 made],.agg #[.int .i64 bl,.slice al nl kl]] w fun e w'=>e= .returned (.bool (Ma id made b1 n1 f1 g1 b2 n2 f2 g2 n3 h bl nl fl gl))/\Below w w w':=by
 have n4:No (.cells #[.int .i64 id,.int .i64 b1,.slice a1 n1 k1,.int .i64 b2,.slice a2 n2 k2,.slice a3 n3 k3,.int .i64 made] 57):=⟨⟩;have n5:No (.cells #[.int .i64 bl,.slice al nl kl] 30):=⟨⟩;have hb0:=((Below.refl _ w).alloc nr n4).alloc (by simp) n5;have yT:Ah ((w.alloc n4).alloc n5) w n4:=(Ah.new w _).alloc _;have yL:Ah ((w.alloc n4).alloc n5) (w.heap.size+1) n5:=by have:=Ah.new (w.alloc n4) n5;simpa using this
 go_enter func122,ntmps122
 go_wp2_with fail
 refine(Jc _ _ _ _ _ _ f1 g1 _ _ _ _ f2 g2 _ _ _ h _ hn1 hn2 hn3 (hc1.below hb0) (hc2.below hb0) (hc3.below hb0)).mono ?_;rintro e w1 ⟨rfl,hb1⟩;have B1:Below w w w1:=hb0.trans (hb1.mono (by simp;omega));have xT:=yT.below hb1;have xL:=yL.below hb1;obtain⟨x0,x1,x2,x3,x4,x5,x6⟩:=xT.sevenF;obtain⟨x7,x8⟩:=xL.two;clear yT yL hb0 hb1;by_cases t1:Dq id made b1 n1 f1 g1 b2 n2 f2 g2 n3 h=true
 ·go_wp2_with fail
  refine(Hq _ _ _ _ fl gl _ _ _ h _ _ _ _ f1 g1 _ hnl hn1 hn3 (hcl.below B1) (hc1.below B1) (hc3.below B1)).mono ?_;rintro e w2 ⟨rfl,hb2⟩;have B2:Below w w w2:=B1.trans (hb2.mono B1.size);clear x0 x1 x2 x3 x4 x5 x6 x7 x8 xT xL;go_wp2;go_ret;obtain⟨p1,_,p3⟩:=Of t1;exact⟨Ag (by simp[Dc,Ma,t1,p1,p3]),B2⟩
 ·have t1':Dq id made b1 n1 f1 g1 b2 n2 f2 g2 n3 h=false:=by simpa using t1
  clear t1;go_wp2;go_ret;exact⟨Ag (by simp[Ma,t1']),B1⟩
theorem ME(id made b1:Int)(a1:Option Addr)(n1 k1:Nat)(f1 g1:Nat->Int)(b2:Int)(a2:Option Addr)(n2 k2:Nat)(f2 g2:Nat->Int)(a3:Option Addr)(n3 k3:Nat)(h:Nat->Int)(bl:Int)(al:Option Addr)(nl kl:Nat)(fl gl:Nat->Int)(w:World)(hn1:n1<=maxLen)(hn2:n2<=maxLen)(hn3:n3<=maxLen)(hc1:Ba w a1 n1 f1 g1)(hc2:Ba w a2 n2 f2 g2)(hc3:Bj w a3 n3 h)(hnl:nl<=maxLen)(hcl:Ba w al nl fl gl):
 Calls prog 137 #[.agg #[.int .i64 id,.int .i64 b1,.slice a1 n1 k1,.int .i64 b2,.slice a2 n2 k2,.slice a3 n3 k3,.int .i64 made],.agg #[.int .i64 bl,.slice al nl kl]] w fun e w'=>e= .returned (.bool (NI id made b1 n1 f1 g1 b2 n2 f2 g2 n3 h bl nl fl gl))/\Below w w w':=by
 have n4:No (.cells #[.int .i64 id,.int .i64 b1,.slice a1 n1 k1,.int .i64 b2,.slice a2 n2 k2,.slice a3 n3 k3,.int .i64 made] 57):=⟨⟩;have n5:No (.cells #[.int .i64 bl,.slice al nl kl] 30):=⟨⟩;have hb0:=((Below.refl _ w).alloc nr n4).alloc (by simp) n5;have yT:Ah ((w.alloc n4).alloc n5) w n4:=(Ah.new w _).alloc _;have yL:Ah ((w.alloc n4).alloc n5) (w.heap.size+1) n5:=by have:=Ah.new (w.alloc n4) n5;simpa using this
 go_enter func137,ntmps137
 go_wp2_with fail
 refine(Jc _ _ _ _ _ _ f1 g1 _ _ _ _ f2 g2 _ _ _ h _ hn1 hn2 hn3 (hc1.below hb0) (hc2.below hb0) (hc3.below hb0)).mono ?_;rintro e w1 ⟨rfl,hb1⟩;have B1:Below w w w1:=hb0.trans (hb1.mono (by simp;omega));have xT:=yT.below hb1;have xL:=yL.below hb1;obtain⟨x0,x1,x2,x3,x4,x5,x6⟩:=xT.sevenF;obtain⟨x7,x8⟩:=xL.two;clear yT yL hb0 hb1;by_cases t1:Dq id made b1 n1 f1 g1 b2 n2 f2 g2 n3 h=true
 ·go_wp2_with fail
  refine(Hq _ _ _ _ f1 g1 _ _ _ h _ _ _ _ fl gl _ hn1 hnl hn3 (hc1.below B1) (hcl.below B1) (hc3.below B1)).mono ?_;rintro e w2 ⟨rfl,hb2⟩;have B2:Below w w w2:=B1.trans (hb2.mono B1.size);clear x0 x1 x2 x3 x4 x5 x6 x7 x8 xT xL;go_wp2;go_ret;obtain⟨p1,_,p3⟩:=Of t1;exact⟨Ag (by simp[Dc,NI,t1,p1,p3]),B2⟩
 ·have t1':Dq id made b1 n1 f1 g1 b2 n2 f2 g2 n3 h=false:=by simpa using t1
  clear t1;go_wp2;go_ret;exact⟨Ag (by simp[NI,t1']),B1⟩
theorem MO(id made b1:Int)(a1:Option Addr)(n1 k1:Nat)(f1 g1:Nat->Int)(b2:Int)(a2:Option Addr)(n2 k2:Nat)(f2 g2:Nat->Int)(a3:Option Addr)(n3 k3:Nat)(h:Nat->Int)(bl:Int)(al:Option Addr)(nl kl:Nat)(fl gl:Nat->Int)(w:World)(hn1:n1<=maxLen)(hn2:n2<=maxLen)(hn3:n3<=maxLen)(hc1:Ba w a1 n1 f1 g1)(hc2:Ba w a2 n2 f2 g2)(hc3:Bj w a3 n3 h)(hnl:nl<=maxLen)(hcl:Ba w al nl fl gl):
 Calls prog 114 #[.agg #[.int .i64 id,.int .i64 b1,.slice a1 n1 k1,.int .i64 b2,.slice a2 n2 k2,.slice a3 n3 k3,.int .i64 made],.agg #[.int .i64 bl,.slice al nl kl]] w fun e w'=>e= .returned (.bool (Ky id made b1 n1 f1 g1 b2 n2 f2 g2 n3 h bl nl fl gl))/\Below w w w':=by
 have n4:No (.cells #[.int .i64 id,.int .i64 b1,.slice a1 n1 k1,.int .i64 b2,.slice a2 n2 k2,.slice a3 n3 k3,.int .i64 made] 57):=⟨⟩;have n5:No (.cells #[.int .i64 bl,.slice al nl kl] 30):=⟨⟩;have hb0:=((Below.refl _ w).alloc nr n4).alloc (by simp) n5;have yT:Ah ((w.alloc n4).alloc n5) w n4:=(Ah.new w _).alloc _;have yL:Ah ((w.alloc n4).alloc n5) (w.heap.size+1) n5:=by have:=Ah.new (w.alloc n4) n5;simpa using this
 go_enter func114,ntmps114
 go_wp2_with fail
 refine(KC _ _ _ _ _ _ f1 g1 _ _ _ _ f2 g2 _ _ _ h _ _ _ _ fl gl _ hn1 hn2 hn3 (hc1.below hb0) (hc2.below hb0) (hc3.below hb0) hnl (hcl.below hb0)).mono ?_;rintro e w1 ⟨rfl,hb1⟩;have B1:Below w w w1:=hb0.trans (hb1.mono (by simp;omega));have xT:=yT.below hb1;have xL:=yL.below hb1;obtain⟨x0,x1,x2,x3,x4,x5,x6⟩:=xT.sevenF;obtain⟨x7,x8⟩:=xL.two;clear yT yL hb0 hb1;by_cases t1:Ma id made b1 n1 f1 g1 b2 n2 f2 g2 n3 h bl nl fl gl=true
 ·go_wp2_with fail
  refine(ME _ _ _ _ _ _ f1 g1 _ _ _ _ f2 g2 _ _ _ h _ _ _ _ fl gl _ hn1 hn2 hn3 (hc1.below B1) (hc2.below B1) (hc3.below B1) hnl (hcl.below B1)).mono ?_;rintro e w2 ⟨rfl,hb2⟩;have B2:Below w w w2:=B1.trans (hb2.mono B1.size);clear x0 x1 x2 x3 x4 x5 x6 x7 x8 xT xL;go_wp2;go_ret;exact⟨Ag (by simp[Ky,t1]),B2⟩
 ·have t1':Ma id made b1 n1 f1 g1 b2 n2 f2 g2 n3 h bl nl fl gl=false:=by simpa using t1
  clear t1;go_wp2;go_ret;exact⟨Ag (by simp[Ky,t1']),B1⟩
end Go.Proofs.YtefoofaocbjdoaaGreatDoor
