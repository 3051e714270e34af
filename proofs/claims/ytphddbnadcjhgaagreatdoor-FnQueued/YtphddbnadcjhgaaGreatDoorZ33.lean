import Derived.Test.YtphddbnadcjhgaaGreatDoorZ32
import Derived.Test.YtphddbnadcjhgaaGreatDoorZ31
import Derived.Test.YtphddbnadcjhgaaGreatDoorZ0
set_option maxRecDepth 100000
set_option maxHeartbeats 16000000
namespace Go.Proofs.YtphddbnadcjhgaaGreatDoor
open Go Go.RowKit Go.Deep Go.Maps Go.Shelf Go.Proofs.Tryz
theorem YG(x:TypeId)(w:World):(Instr.typeAssert .nilIface x 177 true).run prog w= .ok (.tuple #[.agg #[.pointer none],.bool false]) w:=by
 have hu:∀w,(underlying 177).run prog w= .ok _ w:=fun w=>by simp[underlying,go_sem,underlying177];rfl
 simp[Instr.typeAssert,go_sem,hu,zeroValue177]
theorem Py(x:TypeId)(v:Value)(w:World):(Instr.typeAssert (.iface 177 v) x 177 true).run prog w= .ok (.tuple #[v,.bool true]) w:=by
 have hu:∀w,(underlying 177).run prog w= .ok _ w:=fun w=>by simp[underlying,go_sem,underlying177];rfl
 simp[Instr.typeAssert,go_sem,hu]
theorem PG(x:TypeId)(t:TypeId)(v:Value)(w:World)(h:t≠177):(Instr.typeAssert (.iface t v) x 177 true).run prog w= .ok (.tuple #[.agg #[.pointer none],.bool false]) w:=by
 have hu:∀w,(underlying 177).run prog w= .ok _ w:=fun w=>by simp[underlying,go_sem,underlying177];rfl
 simp[Instr.typeAssert,go_sem,hu,zeroValue177,h]
theorem XP(x:TypeId)(v:Value)(w:World):(Instr.typeAssert (.iface 179 v) x 179 true).run prog w= .ok (.tuple #[v,.bool true]) w:=by
 have hu:∀w,(underlying 179).run prog w= .ok _ w:=fun w=>by simp[underlying,go_sem,underlying179];rfl
 simp[Instr.typeAssert,go_sem,hu]
theorem Ws(x:TypeId)(t:TypeId)(v:Value)(w:World)(h:t≠179):(Instr.typeAssert (.iface t v) x 179 true).run prog w= .ok (.tuple #[.agg #[.pointer none],.bool false]) w:=by
 have hu:∀w,(underlying 179).run prog w= .ok _ w:=fun w=>by simp[underlying,go_sem,underlying179];rfl
 simp[Instr.typeAssert,go_sem,hu,zeroValue179,h]
theorem Yn(x:TypeId)(v:Value)(w:World):(Instr.typeAssert (.iface 181 v) x 181 true).run prog w= .ok (.tuple #[v,.bool true]) w:=by
 have hu:∀w,(underlying 181).run prog w= .ok _ w:=fun w=>by simp[underlying,go_sem,underlying181];rfl
 simp[Instr.typeAssert,go_sem,hu]
theorem Zq(x:TypeId)(t:TypeId)(v:Value)(w:World)(h:t≠181):(Instr.typeAssert (.iface t v) x 181 true).run prog w= .ok (.tuple #[.agg #[.pointer none],.bool false]) w:=by
 have hu:∀w,(underlying 181).run prog w= .ok _ w:=fun w=>by simp[underlying,go_sem,underlying181];rfl
 simp[Instr.typeAssert,go_sem,hu,zeroValue181,h]
theorem Yf(x:TypeId)(v:Value)(w:World):(Instr.typeAssert (.iface 183 v) x 183 true).run prog w= .ok (.tuple #[v,.bool true]) w:=by
 have hu:∀w,(underlying 183).run prog w= .ok _ w:=fun w=>by simp[underlying,go_sem,underlying183];rfl
 simp[Instr.typeAssert,go_sem,hu]
theorem Ah.sevenF{W:World}{P t:Nat}{x0 x1 x2 x3 x4 x5 x6:Value}(h:Ah W P (.cells #[x0,x1,x2,x3,x4,x5,x6] t)):W.cell? ⟨P,0,none⟩=some x0/\W.cell? ⟨P,1,none⟩=some x1/\W.cell? ⟨P,2,none⟩=some x2/\W.cell? ⟨P,3,none⟩=some x3/\W.cell? ⟨P,4,none⟩=some x4/\W.cell? ⟨P,5,none⟩=some x5/\W.cell? ⟨P,6,none⟩=some x6:=by
 unfold Ah at h;simp[World.cell?,h]
def Lm(id made b1:Int)(n1:Nat)(f1 g1:Nat->Int)(b2:Int)(n2:Nat)(f2 g2:Nat->Int)(n3:Nat)(h:Nat->Int)(bl:Int)(nl:Nat)(fl gl:Nat->Int):Bool:=
 De id made b1 n1 f1 g1 b2 n2 f2 g2 n3 h&&(AH bl nl fl gl&&Cj bl nl fl gl n3 h b1 n1 f1 g1)
def M6(id made b1:Int)(n1:Nat)(f1 g1:Nat->Int)(b2:Int)(n2:Nat)(f2 g2:Nat->Int)(n3:Nat)(h:Nat->Int)(bl:Int)(nl:Nat)(fl gl:Nat->Int):Bool:=
 De id made b1 n1 f1 g1 b2 n2 f2 g2 n3 h&&(AH bl nl fl gl&&Cj b1 n1 f1 g1 n3 h bl nl fl gl)
def JU(id made b1:Int)(n1:Nat)(f1 g1:Nat->Int)(b2:Int)(n2:Nat)(f2 g2:Nat->Int)(n3:Nat)(h:Nat->Int)(bl:Int)(nl:Nat)(fl gl:Nat->Int):Bool:=
 Lm id made b1 n1 f1 g1 b2 n2 f2 g2 n3 h bl nl fl gl&&M6 id made b1 n1 f1 g1 b2 n2 f2 g2 n3 h bl nl fl gl
theorem Mm{id made b1:Int}{n1:Nat}{f1 g1:Nat->Int}{b2:Int}{n2:Nat}{f2 g2:Nat->Int}{n3:Nat}{h:Nat->Int}(t:De id made b1 n1 f1 g1 b2 n2 f2 g2 n3 h=true):AH b1 n1 f1 g1=true/\AH b2 n2 f2 g2=true/\Bu n3 h=true:=by
 simp only[De,Bool.and_eq_true]at t;exact⟨t.1.1.1.2,t.1.1.2,t.1.2⟩
theorem JY(id made b1:Int)(a1:Option Addr)(n1 k1:Nat)(f1 g1:Nat->Int)(b2:Int)(a2:Option Addr)(n2 k2:Nat)(f2 g2:Nat->Int)(a3:Option Addr)(n3 k3:Nat)(h:Nat->Int)(bl:Int)(al:Option Addr)(nl kl:Nat)(fl gl:Nat->Int)(w:World)(hn1:n1<=maxLen)(hn2:n2<=maxLen)(hn3:n3<=maxLen)(hc1:AL w a1 n1 f1 g1)(hc2:AL w a2 n2 f2 g2)(hc3:Be w a3 n3 h)(hnl:nl<=maxLen)(hcl:AL w al nl fl gl):
 Calls prog 120 #[.agg #[.int .i64 id,.int .i64 b1,.slice a1 n1 k1,.int .i64 b2,.slice a2 n2 k2,.slice a3 n3 k3,.int .i64 made],.agg #[.int .i64 bl,.slice al nl kl]] w fun e w'=>e= .returned (.bool (Lm id made b1 n1 f1 g1 b2 n2 f2 g2 n3 h bl nl fl gl))/\Below w w w':=by
 have n4:No (.cells #[.int .i64 id,.int .i64 b1,.slice a1 n1 k1,.int .i64 b2,.slice a2 n2 k2,.slice a3 n3 k3,.int .i64 made] 68):=⟨⟩;have n5:No (.cells #[.int .i64 bl,.slice al nl kl] 30):=⟨⟩;have hb0:=((Below.refl _ w).alloc (Nat.le_refl _) n4).alloc (by simp) n5;have yT:Ah ((w.alloc n4).alloc n5) w n4:=(Ah.new w _).alloc _;have yL:Ah ((w.alloc n4).alloc n5) (w.heap.size+1) n5:=by have:=Ah.new (w.alloc n4) n5;simpa using this
 go_enter func120,ntmps120
 go_wp2_with fail
 refine(Ik _ _ _ _ _ _ f1 g1 _ _ _ _ f2 g2 _ _ _ h _ hn1 hn2 hn3 (hc1.below hb0) (hc2.below hb0) (hc3.below hb0)).mono ?_;rintro e w1 ⟨rfl,hb1⟩;have B1:Below w w w1:=hb0.trans (hb1.mono (by simp;omega));have xT:=yT.below hb1;have xL:=yL.below hb1;obtain⟨x0,x1,x2,x3,x4,x5,x6⟩:=xT.sevenF;obtain⟨x7,x8⟩:=xL.two;clear yT yL hb0 hb1;by_cases t1:De id made b1 n1 f1 g1 b2 n2 f2 g2 n3 h=true
 ·go_wp2_with fail
  refine(GV _ _ _ _ fl gl _ _ _ h _ _ _ _ f1 g1 _ hnl hn1 hn3 (hcl.below B1) (hc1.below B1) (hc3.below B1)).mono ?_;rintro e w2 ⟨rfl,hb2⟩;have B2:Below w w w2:=B1.trans (hb2.mono B1.size);clear x0 x1 x2 x3 x4 x5 x6 x7 x8 xT xL;go_wp2;go_ret;obtain⟨p1,_,p3⟩:=Mm t1;exact⟨Ag (by simp[Cy,Lm,t1,p1,p3]),B2⟩
 ·have t1':De id made b1 n1 f1 g1 b2 n2 f2 g2 n3 h=false:=by simpa using t1
  clear t1;go_wp2;go_ret;exact⟨Ag (by simp[Lm,t1']),B1⟩
theorem Lw(id made b1:Int)(a1:Option Addr)(n1 k1:Nat)(f1 g1:Nat->Int)(b2:Int)(a2:Option Addr)(n2 k2:Nat)(f2 g2:Nat->Int)(a3:Option Addr)(n3 k3:Nat)(h:Nat->Int)(bl:Int)(al:Option Addr)(nl kl:Nat)(fl gl:Nat->Int)(w:World)(hn1:n1<=maxLen)(hn2:n2<=maxLen)(hn3:n3<=maxLen)(hc1:AL w a1 n1 f1 g1)(hc2:AL w a2 n2 f2 g2)(hc3:Be w a3 n3 h)(hnl:nl<=maxLen)(hcl:AL w al nl fl gl):
 Calls prog 137 #[.agg #[.int .i64 id,.int .i64 b1,.slice a1 n1 k1,.int .i64 b2,.slice a2 n2 k2,.slice a3 n3 k3,.int .i64 made],.agg #[.int .i64 bl,.slice al nl kl]] w fun e w'=>e= .returned (.bool (M6 id made b1 n1 f1 g1 b2 n2 f2 g2 n3 h bl nl fl gl))/\Below w w w':=by
 have n4:No (.cells #[.int .i64 id,.int .i64 b1,.slice a1 n1 k1,.int .i64 b2,.slice a2 n2 k2,.slice a3 n3 k3,.int .i64 made] 68):=⟨⟩;have n5:No (.cells #[.int .i64 bl,.slice al nl kl] 30):=⟨⟩;have hb0:=((Below.refl _ w).alloc (Nat.le_refl _) n4).alloc (by simp) n5;have yT:Ah ((w.alloc n4).alloc n5) w n4:=(Ah.new w _).alloc _;have yL:Ah ((w.alloc n4).alloc n5) (w.heap.size+1) n5:=by have:=Ah.new (w.alloc n4) n5;simpa using this
 go_enter func137,ntmps137
 go_wp2_with fail
 refine(Ik _ _ _ _ _ _ f1 g1 _ _ _ _ f2 g2 _ _ _ h _ hn1 hn2 hn3 (hc1.below hb0) (hc2.below hb0) (hc3.below hb0)).mono ?_;rintro e w1 ⟨rfl,hb1⟩;have B1:Below w w w1:=hb0.trans (hb1.mono (by simp;omega));have xT:=yT.below hb1;have xL:=yL.below hb1;obtain⟨x0,x1,x2,x3,x4,x5,x6⟩:=xT.sevenF;obtain⟨x7,x8⟩:=xL.two;clear yT yL hb0 hb1;by_cases t1:De id made b1 n1 f1 g1 b2 n2 f2 g2 n3 h=true
 ·go_wp2_with fail
  refine(GV _ _ _ _ f1 g1 _ _ _ h _ _ _ _ fl gl _ hn1 hnl hn3 (hc1.below B1) (hcl.below B1) (hc3.below B1)).mono ?_;rintro e w2 ⟨rfl,hb2⟩;have B2:Below w w w2:=B1.trans (hb2.mono B1.size);clear x0 x1 x2 x3 x4 x5 x6 x7 x8 xT xL;go_wp2;go_ret;obtain⟨p1,_,p3⟩:=Mm t1;exact⟨Ag (by simp[Cy,M6,t1,p1,p3]),B2⟩
 ·have t1':De id made b1 n1 f1 g1 b2 n2 f2 g2 n3 h=false:=by simpa using t1
  clear t1;go_wp2;go_ret;exact⟨Ag (by simp[M6,t1']),B1⟩
theorem Lu(id made b1:Int)(a1:Option Addr)(n1 k1:Nat)(f1 g1:Nat->Int)(b2:Int)(a2:Option Addr)(n2 k2:Nat)(f2 g2:Nat->Int)(a3:Option Addr)(n3 k3:Nat)(h:Nat->Int)(bl:Int)(al:Option Addr)(nl kl:Nat)(fl gl:Nat->Int)(w:World)(hn1:n1<=maxLen)(hn2:n2<=maxLen)(hn3:n3<=maxLen)(hc1:AL w a1 n1 f1 g1)(hc2:AL w a2 n2 f2 g2)(hc3:Be w a3 n3 h)(hnl:nl<=maxLen)(hcl:AL w al nl fl gl):
 Calls prog 112 #[.agg #[.int .i64 id,.int .i64 b1,.slice a1 n1 k1,.int .i64 b2,.slice a2 n2 k2,.slice a3 n3 k3,.int .i64 made],.agg #[.int .i64 bl,.slice al nl kl]] w fun e w'=>e= .returned (.bool (JU id made b1 n1 f1 g1 b2 n2 f2 g2 n3 h bl nl fl gl))/\Below w w w':=by
 have n4:No (.cells #[.int .i64 id,.int .i64 b1,.slice a1 n1 k1,.int .i64 b2,.slice a2 n2 k2,.slice a3 n3 k3,.int .i64 made] 68):=⟨⟩;have n5:No (.cells #[.int .i64 bl,.slice al nl kl] 30):=⟨⟩;have hb0:=((Below.refl _ w).alloc (Nat.le_refl _) n4).alloc (by simp) n5;have yT:Ah ((w.alloc n4).alloc n5) w n4:=(Ah.new w _).alloc _;have yL:Ah ((w.alloc n4).alloc n5) (w.heap.size+1) n5:=by have:=Ah.new (w.alloc n4) n5;simpa using this
 go_enter func112,ntmps112
 go_wp2_with fail
 refine(JY _ _ _ _ _ _ f1 g1 _ _ _ _ f2 g2 _ _ _ h _ _ _ _ fl gl _ hn1 hn2 hn3 (hc1.below hb0) (hc2.below hb0) (hc3.below hb0) hnl (hcl.below hb0)).mono ?_;rintro e w1 ⟨rfl,hb1⟩;have B1:Below w w w1:=hb0.trans (hb1.mono (by simp;omega));have xT:=yT.below hb1;have xL:=yL.below hb1;obtain⟨x0,x1,x2,x3,x4,x5,x6⟩:=xT.sevenF;obtain⟨x7,x8⟩:=xL.two;clear yT yL hb0 hb1;by_cases t1:Lm id made b1 n1 f1 g1 b2 n2 f2 g2 n3 h bl nl fl gl=true
 ·go_wp2_with fail
  refine(Lw _ _ _ _ _ _ f1 g1 _ _ _ _ f2 g2 _ _ _ h _ _ _ _ fl gl _ hn1 hn2 hn3 (hc1.below B1) (hc2.below B1) (hc3.below B1) hnl (hcl.below B1)).mono ?_;rintro e w2 ⟨rfl,hb2⟩;have B2:Below w w w2:=B1.trans (hb2.mono B1.size);clear x0 x1 x2 x3 x4 x5 x6 x7 x8 xT xL;go_wp2;go_ret;exact⟨Ag (by simp[JU,t1]),B2⟩
 ·have t1':Lm id made b1 n1 f1 g1 b2 n2 f2 g2 n3 h bl nl fl gl=false:=by simpa using t1
  clear t1;go_wp2;go_ret;exact⟨Ag (by simp[JU,t1']),B1⟩
open Go.BigFrame
theorem Ff(w:World){B:Nat}(E:Nat->Addr)(hB:B<=w.heap.size)(c:Int)(hc:c≠0)(i:Nat)(h0:i≠0)(h1:i<14)(h3:i≠3){r:Nat}(hr:w.heap.size=r):Told (w.alloc (.cells #[.int .i64 c,.iface 259 (.pointer (some (E i)))] 58)) B E (.iface 53 (.pointer (some ⟨r,0,none⟩))) c:=by
 subst hr;exact .inr ⟨hc,_,i,rfl,Ah.new w _,h0,h1,h3,hB⟩
theorem Tm{k:Int}(h:k≠1):FH k=179∨FH k=181∨FH k=183:=by
 unfold FH;rw[if_neg h];split
 ·exact .inl rfl
 ·split
  ·exact .inr (.inl rfl)
  ·exact .inr (.inr rfl)
theorem Ty(E:Nat->Addr)(w:World)(B P:Nat)(s:Al)(g ca q co:Nat)(lt:List Ac)(lo:List Ab)(t c C:Nat)(nb:Nat->Nat)(kv:Nat->Value)(K:Nat->List Int)(h:Gh w B P s g ca q co lt lo t (.map (some c)))(hN:Dz w C c lo.length (fun i=>(Aa lo i).id) q 0 nb kv K)(he:Mp w E)(h14:14<=B)(hB:B<=w.heap.size)(ht:t<lt.length)(X:Ac)(hX:X=lt[t])(u:Nat)(hu:u<lo.length)(O:Ab)(hO:O=lo[u])(hd:∀x∈lo,x.data.size<=maxLen)(hto:(Lit.int .i64 s.to).wf=true)
 (CH:∀p,p<lo.length->∀W,Below w w W->Calls prog 112 #[.agg #[X.id,X.b1,.slice X.c1.a X.c1.n X.c1.k,X.b2,.slice X.c2.a X.c2.n X.c2.k,.slice X.own.a X.own.n X.own.k,X.made],.agg #[.int .i64 (Aa lo p).b1,.slice (Aa lo p).c1.a (Aa lo p).c1.n (Aa lo p).c1.k]] W fun e w'=>e= .returned (.bool (Ao X (Aa lo p).b1 (Aa lo p).c1))/\Below W W w'):
 Calls prog 140 #[.pointer (some ⟨P,0,none⟩),.agg #[.pointer (some ⟨q,u*10,none⟩)]] w fun e w'=>∃v,e= .returned v/\∃(c':Int) (lo':List Ab),Gh w' B P s g ca q co lt lo' t (.map (some c))/\Below B w w'/\Told w' B E v c'/\((Gx lo s.to=none/\c'=4/\lo'=lo)∨∃p,Gx lo s.to=some p/\((((Aa lo p).kind≠1∨Ao X (Aa lo p).b1 (Aa lo p).c1=false)/\c'=4/\lo'=lo)∨((Aa lo p).kind=1/\Ao X (Aa lo p).b1 (Aa lo p).c1=true/\c'=0/\lo'=(lo.set p ⟨(Aa lo p).id,(Aa lo p).kind,(Aa lo p).up,(Aa lo p).b1,(Aa lo p).c1,O.data,(Aa lo p).items,(Aa lo p).own,(Aa lo p).b2,(Aa lo p).c2⟩)))):=by
 obtain⟨CW,gl⟩:=h.st.cell7 ht;rw[<-hX]at CW;obtain⟨CO,ql⟩:=h.st.cell10 hu hd;rw[<-hO]at CO;have n2:Nw (w.alloc (.cells #[.pointer (some ⟨q,u*10,none⟩)] 177)):=⟨⟩;have b0:Below w w n2:=(Below.refl _ w).alloc (Nat.le_refl _) _;have c0:(n2:World).cell? ⟨w,0,none⟩=some (.pointer (some ⟨q,u*10,none⟩)):=by go_simp
 obtain⟨⟨k0,k1,k2,k3,k4,k5,k6,k7,k8,k9⟩,k10,k11,k12,k13⟩:=(h.wk.below b0).work;have HW:=hid h;have HE:=hid he;have HCH:=hid CH;have B0:=hid b0;have TH:=hid (Lc n2 B P s g ca q co lt lo t c C lo.length _ nb kv K (h.below b0) (hN.below b0) (Nat.le_refl _) hd s.to hto);have n6:No (.cells (LG s g lt.length ca q lo.length co t (.map (some c))) 89):=⟨⟩;have BX:Hid (∀W,Below (n2:World).heap.size n2 W->Ah W P n6/\F6 W g (t*7) X/\Cz W q (u*10) O/\W.cell? ⟨w,0,none⟩=some (.pointer (some ⟨q,u*10,none⟩))):=hid (fun W hW=>⟨(HW.out.wk.below B0).below hW,(CW.below gl B0).below (Nat.lt_of_lt_of_le gl B0.out.size) hW,(CO.below ql B0).below (Nat.lt_of_lt_of_le ql B0.out.size) hW,(hW.cell (p:=⟨w,0,none⟩) (by simp)).trans c0⟩);have HD:=hid hd;have wl:w.heap.size<(n2:World).heap.size:=by simp
 clear h he CH b0 hN hX hO CW CO hd;go_enter func140,ntmps140
 go_wp2_with fail
 refine TH.out.mono ?_;rintro e w1 ⟨hr,b1⟩;have V1:=hid b1;have A1:=hid (Af B0 b1);have H1:=hid (HW.out.below A1);clear TH b1 k0 k1 k2 k3 k4 k5 k6 k7 k8 k9 k10 k11 k12 k13 c0;rcases hr with⟨hf,rfl⟩|⟨p,hf,rfl⟩
 ·have HF:Hid (Gx lo s.to=none):=hid hf;clear hf;have a0:=YG 172 w1;have n9:Nw (w1.alloc (.cells #[.pointer none] 177)):=⟨⟩;have b2:Below w1 w1 n9:=(Below.refl _ w1).alloc (Nat.le_refl _) _;have A2:=hid (Af A1 b2);have e6:=(HE.out.below h14 (A2.out.mono hB) 6 (by omega) (by omega)).1;have sz:B<=(n9:World).heap.size:=Nat.le_trans hB A2.out.size;go_wp2_with fail
  refine(DZ 259 (.pointer (some (E 6))) _).mono ?_;rintro e w9 ⟨rfl,rfl⟩;go_wp2;go_ret;have b3:=Af A2 ((Below.refl _ _).alloc (Nat.le_refl _) (.cells #[.int .i64 4,.iface 259 (.pointer (some (E 6)))] 58));exact⟨_,rfl,4,lo,HW.out.below b3,b3.mono hB,Ff _ E sz 4 (by decide) 6 (by decide) (by decide) (by decide) (by first|rfl|simp),.inl ⟨HF,rfl,rfl⟩⟩
 ·have HF:Hid (Gx lo s.to=some p):=hid hf;obtain⟨hp,_⟩:=AE hf;have eo:lo[p]'hp=Aa lo p:=by simp[Aa,hp]
  have HP:=hid eo;clear hf eo;by_cases h1:(Aa lo p).kind=1
  ·have ty:FH (Aa lo p).kind=177:=(by rw[h1];rfl);rw[ty];have H1':=hid h1;clear ty h1;have n4:Na #[.pointer (some ⟨q,p*10,none⟩)]:=⟨⟩;have a0:=Py 172 (.agg n4) w1;have n1:Nw (w1.alloc (.cells n4 177)):=⟨⟩;have b2:Below w1 w1 n1:=(Below.refl _ w1).alloc (Nat.le_refl _) _;have V2:=hid (Af V1 b2);have A2:=hid (Af A1 b2);have H2:=hid (HW.out.below A2);have d0:(n1:World).cell? ⟨w1,0,none⟩=some (.pointer (some ⟨q,p*10,none⟩)):=(by go_simp);clear b2;go_upto_region 4 with fail
   have D0:=hid (Below.refl (n1:World).heap.size n1).drew;have BY:Hid (∀W,Below (n1:World).heap.size n1 W->Ah W P n6/\F6 W g (t*7) X/\Cz W q (p*10) (Aa lo p)/\W.cell? ⟨w1,0,none⟩=some (.pointer (some ⟨q,p*10,none⟩))):=hid (fun W hW=>⟨(BX W (Af V2 hW)).1,(BX W (Af V2 hW)).2.1,by
    have:=((H2.out.below hW).st.cell10 hp HD).1;rw[HP.out]at this;exact this,(hW.cell (p:=⟨w1,0,none⟩) (by simp)).trans d0⟩)
   have ql2:∀W,Below (n1:World).heap.size n1 W->q<W.heap.size:=fun W hW=>((H2.out.below hW).st.cell10 hp HD).2;have EL:Hid (∀args w,(callFunc 133 args).run prog w= .ok (.enter 133 args) w):=hid (enters_of func133 (by kernel_rfl) rfl);have EC:Hid (∀args w,(callFunc 112 args).run prog w= .ok (.enter 112 args) w):=hid (enters_of func112 (by kernel_rfl) rfl);have n5:Na #[.int .i64 (Aa lo p).b1,.slice (Aa lo p).c1.a (Aa lo p).c1.n (Aa lo p).c1.k]:=⟨⟩;have P1:Hid (Calls prog 133 #[.agg n4] (n1:World).drew fun e w'=>∃v,e= .returned v/\(v= .agg n5/\Below (n1:World).drew.heap.size (n1:World).drew w')):=hid ((Oz q (p*10) (Aa lo p).b1 (Aa lo p).c1 (n1:World).drew (ql2 _ D0) (BY _ D0).2.2.1.c3 (BY _ D0).2.2.1.c4).mono fun _ _ h=>⟨_,h.1,rfl,h.2⟩);refine An 11 (fun W=>Below (n1:World).heap.size n1 W) (by kernel_rfl) ?_;have n8:Nv (.pointer (some ⟨P,0,none⟩)):=⟨⟩;refine tq 0 22 n8 D0 ?_;simp only[ap,List.set];refine tq 1 23 n8 D0 ?_;simp only[ap,List.set];refine tq 2 24 (.pointer (some ⟨P,12,none⟩)) D0 ?_;simp only[ap,List.set];have n7:Nv (.pointer (some ⟨g,t*7,none⟩)):=⟨⟩;refine tq 3 25 n7 D0 ?_ (hy:=fun W h=>by obtain⟨⟨k0,k1,k2,k3,k4,k5,k6,k7,k8,k9⟩,k10,k11,k12,k13⟩:=(BY W h).1.work;go_simp);simp only[ap,List.set];refine tq 4 26 n7 D0 ?_;simp only[ap,List.set];have n3:Na #[X.id,X.b1,.slice X.c1.a X.c1.n X.c1.k,X.b2,.slice X.c2.a X.c2.n X.c2.k,.slice X.own.a X.own.n X.own.k,X.made]:=⟨⟩;refine tq 5 27 (.agg n3) D0 ?_ (hy:=fun W h=>by have C:=(BY W h).2.1;have y0:=C.c0;have y1:=C.c1;have y2:W.cell? ⟨g,t*7+2,none⟩=some (.slice X.c1.a X.c1.n X.c1.k):=C.c2;have y3:=C.c3;have y4:W.cell? ⟨g,t*7+4,none⟩=some (.slice X.c2.a X.c2.n X.c2.k):=C.c4;have y5:W.cell? ⟨g,t*7+5,none⟩=some (.slice X.own.a X.own.n X.own.k):=C.c5;have y6:=C.c6;go_simp);simp only[ap,List.set];refine tq 6 28 (.pointer (some ⟨w1,0,none⟩)) D0 ?_;simp only[ap,List.set];refine tq 7 29 (.agg n4) D0 ?_ (hy:=fun W h=>by have y:=(BY W h).2.2.2;go_simp);simp only[ap,List.set];refine Ae (i:=8) (by kernel_rfl) rfl ?_;intro K hK;refine Aw (by rfl) 133 _ _ (by rfl) EL _ (by rfl) (some 30) (by rfl) _ P1 ?_;rintro v w3 ⟨rfl,b3⟩;have V3:=hid (Af D0 b3);refine hK _ _ (fun _=>V3) ?_;clear hK K b3 P1;simp only[ap,List.set];have P2:Hid (Calls prog 112 #[.agg n3,.agg n5] w3 fun e w'=>∃v,e= .returned v/\(v= .bool (Ao X (Aa lo p).b1 (Aa lo p).c1)/\Below w3 w3 w')):=hid ((HCH p hp _ (Af A2 V3)).mono fun _ _ h=>⟨_,h.1,rfl,h.2⟩);refine Ae (i:=9) (by kernel_rfl) rfl ?_;intro K hK;refine AR (by rfl) 112 _ _ _ (by rfl) EC _ _ (by rfl) (by rfl) (some 31) (by rfl) _ P2 ?_;rintro v w4 ⟨rfl,b4⟩;have V4:=hid (Af V3 b4);refine hK _ _ (fun _=>V4) ?_;clear hK K b4 P2;simp only[ap,List.set];refine tq 10 32 (.bool (!Ao X (Aa lo p).b1 (Aa lo p).c1)) V4 ?_;simp only[ap,List.set];refine Ak (by kernel_rfl) ?_ _;have A4:=hid (Af A2 V4);have sz:B<=w4.heap.size:=Nat.le_trans hB A4.out.size;cases hc:Ao X (Aa lo p).b1 (Aa lo p).c1 with
   |false=>
    have e8:=(HE.out.below h14 (A4.out.mono hB) 8 (by omega) (by omega)).1;go_wp2_with fail
    refine(DZ 259 (.pointer (some (E 8))) _).mono ?_;rintro e w9 ⟨rfl,rfl⟩;go_wp2;go_ret;have b3:=Af A4 ((Below.refl _ _).alloc (Nat.le_refl _) (.cells #[.int .i64 4,.iface 259 (.pointer (some (E 8)))] 58));exact⟨_,rfl,4,lo,HW.out.below b3,b3.mono hB,Ff _ E sz 4 (by decide) 8 (by decide) (by decide) (by decide) (by first|rfl|simp),.inr ⟨p,HF,.inl ⟨.inr hc,rfl,rfl⟩⟩⟩
   |true=>
    have HC:=hid hc;clear hc;have W4:=hid (HW.out.below A4);have WD:=hid (W4.out.below (Below.refl _ w4).drew);obtain⟨S1,hg,cur,hcu⟩:=WD.out.setData (d:=O.data) hp HP.out.symm;have S1':=hid S1;have gf:=hcu.warm;have B5:=hid (((A4.out.drew).mono hB).setCell (p:=⟨q,p*10+5,none⟩) hg (.string O.data));have y0:w4.drew.cell? ⟨w1,0,none⟩=some (.pointer (some ⟨q,p*10,none⟩)):=(BY _ V4).2.2.2;have y1:w4.drew.cell? ⟨w,0,none⟩=some (.pointer (some ⟨q,u*10,none⟩)):=(BX _ (Af V2 V4)).2.2.2;have y2:w4.drew.cell? ⟨q,u*10+5,none⟩=some (.string O.data):=(BX _ (Af V2 V4)).2.2.1.c5;have y3:w4.drew.cell? ⟨q,p*10+5,none⟩=some (.string (Aa lo p).data):=(BY _ V4).2.2.1.c5;clear S1 d0;go_upto_region 6 with fail
    go_region_law fail
    all_goals(
     go_wp2;go_ret;exact⟨_,rfl,0,_,S1',B5,.inl ⟨rfl,rfl⟩,.inr ⟨p,HF,.inr ⟨H1',HC,rfl,rfl⟩⟩⟩)
  ·have h2:∃ty,FH (Aa lo p).kind=ty/\(ty=179∨ty=181∨ty=183):=⟨_,rfl,Tm h1⟩;obtain⟨ty,e1,e2⟩:=h2;rw[e1];have HK:=hid h1;have n10:Nw (w1.alloc (.cells #[.pointer none] 177)):=⟨⟩;have b2:Below w1 w1 n10:=(Below.refl _ w1).alloc (Nat.le_refl _) _;have A2:=hid (Af A1 b2);have e6:=(HE.out.below h14 (A2.out.mono hB) 6 (by omega) (by omega)).1;have sz:B<=(n10:World).heap.size:=Nat.le_trans hB A2.out.size;have a0:=PG 172 ty (.agg #[.pointer (some ⟨q,p*10,none⟩)]) w1 (by rcases e2 with rfl|rfl|rfl<;>decide);clear e1 h1 b2 e2
   (
    go_wp2_with fail
    refine(DZ 259 (.pointer (some (E 6))) _).mono ?_;rintro e w9 ⟨rfl,rfl⟩;go_wp2;go_ret;have b3:=Af A2 ((Below.refl _ _).alloc (Nat.le_refl _) (.cells #[.int .i64 4,.iface 259 (.pointer (some (E 6)))] 58));exact⟨_,rfl,4,lo,HW.out.below b3,b3.mono hB,Ff _ E sz 4 (by decide) 6 (by decide) (by decide) (by decide) (by first|rfl|simp),.inr ⟨p,HF,.inl ⟨.inl HK,rfl,rfl⟩⟩⟩)
theorem Ny(E:Nat->Addr)(w:World)(B P:Nat)(s:Al)(g ca q co:Nat)(lt:List Ac)(lo:List Ab)(t:Nat)(m:Value)(h:Gh w B P s g ca q co lt lo t m)(he:Mp w E)(h14:14<=B)(hB:B<=w.heap.size)(u:Nat)(hu:u<lo.length)(O:Ab)(hO:O=lo[u])(hd:∀x∈lo,x.data.size<=maxLen)(hk:s.kind=9)(hf:O.items.n=8):
 Calls prog 123 #[.pointer (some ⟨P,0,none⟩),.agg #[.pointer (some ⟨q,u*10,none⟩)]] w fun e w'=>∃v,e= .returned (.tuple #[.string ⟨#[]⟩,v])/\Below B w w'/\Told w' B E v 5/\Gh w' B P s g ca q co lt lo t m:=by
 obtain⟨CO,ql⟩:=h.st.cell10 hu hd;rw[<-hO]at CO;have n1:Nw (w.alloc (.cells #[.pointer (some ⟨q,u*10,none⟩)] 179)):=⟨⟩;have b0:Below w.heap.size w n1:=(Below.refl _ w).alloc (Nat.le_refl _) _;have c0:(n1:World).cell? ⟨w.heap.size,0,none⟩=some (.pointer (some ⟨q,u*10,none⟩)):=by go_simp
 obtain⟨⟨k0,k1,k2,k3,k4,k5,k6,k7,k8,k9⟩,k10,k11,k12,k13⟩:=(h.wk.below b0).work;have y6:(n1:World).cell? ⟨q,u*10+6,none⟩=some (.slice O.items.a O.items.n O.items.k):=(CO.below ql b0).c6;have HA:=hid (h.below b0);have B0:=hid b0;have HE:=hid he;have HO:=hid hO;have ON:=hid (show O.new B w by rw[hO];exact h.st.on _ (List.getElem_mem hu));have OC:=hid (show O.items.n<=O.items.k/\O.items.k<=maxLen by rw[hO];exact h.st.oc _ (List.getElem_mem hu));rw[hk]at k1;rw[hf]at y6;have e5:=(HE.out.below h14 (B0.out.mono hB) 12 (by omega) (by omega)).1;have sz:B<=(n1:World).heap.size:=Nat.le_trans hB B0.out.size;clear h he hO CO b0 hk hf;go_enter func123,ntmps123
 go_wp2_with fail
 refine(DY 5 259 (.pointer (some (E 12))) _).mono ?_;rintro e w9 ⟨rfl,rfl⟩;go_wp2;go_ret2;have b3:=Af B0.out ((Below.refl _ _).alloc (Nat.le_refl _) (.cells #[.int .i64 5,.iface 259 (.pointer (some (E 12)))] 58));exact⟨_,rfl,b3.mono hB,Ff _ E sz 5 (by decide) 12 (by decide) (by decide) (by decide) (by first|rfl|simp),HA.out.below ((Below.refl _ _).alloc (Nat.le_refl _) _)⟩
theorem Og(E:Nat->Addr)(w:World)(B P:Nat)(s:Al)(g ca q co:Nat)(lt:List Ac)(lo:List Ab)(t:Nat)(m:Value)(h:Gh w B P s g ca q co lt lo t m)(he:Mp w E)(h14:14<=B)(hB:B<=w.heap.size)(u:Nat)(hu:u<lo.length)(O:Ab)(hO:O=lo[u])(hd:∀x∈lo,x.data.size<=maxLen)(hk:s.kind=10)(hf:O.items.n=0):
 Calls prog 123 #[.pointer (some ⟨P,0,none⟩),.agg #[.pointer (some ⟨q,u*10,none⟩)]] w fun e w'=>∃v,e= .returned (.tuple #[.string ⟨#[]⟩,v])/\Below B w w'/\Told w' B E v 6/\Gh w' B P s g ca q co lt lo t m:=by
 obtain⟨CO,ql⟩:=h.st.cell10 hu hd;rw[<-hO]at CO;have n1:Nw (w.alloc (.cells #[.pointer (some ⟨q,u*10,none⟩)] 179)):=⟨⟩;have b0:Below w.heap.size w n1:=(Below.refl _ w).alloc (Nat.le_refl _) _;have c0:(n1:World).cell? ⟨w.heap.size,0,none⟩=some (.pointer (some ⟨q,u*10,none⟩)):=by go_simp
 obtain⟨⟨k0,k1,k2,k3,k4,k5,k6,k7,k8,k9⟩,k10,k11,k12,k13⟩:=(h.wk.below b0).work;have y6:(n1:World).cell? ⟨q,u*10+6,none⟩=some (.slice O.items.a O.items.n O.items.k):=(CO.below ql b0).c6;have HA:=hid (h.below b0);have B0:=hid b0;have HE:=hid he;have HO:=hid hO;have ON:=hid (show O.new B w by rw[hO];exact h.st.on _ (List.getElem_mem hu));have OC:=hid (show O.items.n<=O.items.k/\O.items.k<=maxLen by rw[hO];exact h.st.oc _ (List.getElem_mem hu));rw[hk]at k1;rw[hf]at y6;have e5:=(HE.out.below h14 (B0.out.mono hB) 13 (by omega) (by omega)).1;have sz:B<=(n1:World).heap.size:=Nat.le_trans hB B0.out.size;clear h he hO CO b0 hk hf;go_enter func123,ntmps123
 go_wp2_with fail
 refine(DY 6 259 (.pointer (some (E 13))) _).mono ?_;rintro e w9 ⟨rfl,rfl⟩;go_wp2;go_ret2;have b3:=Af B0.out ((Below.refl _ _).alloc (Nat.le_refl _) (.cells #[.int .i64 6,.iface 259 (.pointer (some (E 13)))] 58));exact⟨_,rfl,b3.mono hB,Ff _ E sz 6 (by decide) 13 (by decide) (by decide) (by decide) (by first|rfl|simp),HA.out.below ((Below.refl _ _).alloc (Nat.le_refl _) _)⟩
theorem UM{w:World}{B:Nat}{c:As}(h:c.new B w)(hk:c.n<=c.k/\c.k<=maxLen)(ht:c.tight):Ew w B (.slice c.a c.n c.k) c.n c.f:=by
 refine⟨by simp[If],?_⟩;by_cases h0:0<c.n
 ·obtain⟨b,m,F,e,h1,⟨h2,rfl⟩,cur,hc,hs,hF⟩:=h.2 h0;obtain⟨b',off,e',hlt,hcc⟩:=h.1.2.1 h0;rw[e]at e';cases e';refine .inr ⟨b,c.k,cur,by rw[e],h1,hc,hk.1,hk.2,by rw[hs,Nat.mul_one],?_⟩;refine List.ext_getElem? (fun i=>?_);rw[Nat.mul_one];by_cases hi:i<c.n
  ·have hv:=hcc i hi;simp only[World.cell?,hc]at hv;rw[List.getElem?_take_of_lt hi];simp[If,hi];simpa using hv
  ·rw[List.getElem?_eq_none (by simp;omega),List.getElem?_eq_none (by simp[If];omega)]
 ·obtain⟨e1,e2⟩:=ht (by omega);have e3:c.n=0:=by omega
  exact .inl ⟨by rw[e1,e2,e3],e3⟩
theorem Kt{w:World}{B:Nat}{c:As}(h:c.new B w)(ht:c.tight):∀b,(Value.slice c.a c.n c.k).ownBlock=some b->b∈c.bs/\∃m F,w.rowIs b 9 m F:=fun b e=>by
 by_cases h0:0<c.n
 ·obtain⟨b',m,F,e',h1,_,hr⟩:=h.2 h0;rw[e']at e;simp only[Value.ownBlock,Option.some.injEq]at e;subst e;exact⟨by unfold As.bs;rw[if_pos h0,e'];simp,m,F,hr⟩
 ·obtain⟨e1,e2⟩:=ht (by omega);rw[e1]at e;cases e
theorem Kg{ops:Array Oper}{o:Oper}{a:Act}{w:World}{K:Act->World->Prop}{Q:Exit->Act->World->Prop}{E:Prop}(hgd:o.guard=none)(s x:Operand)
 (ho:o.op= .call {callee:= .builtin .append,args:=#[s,x],argTypes:=#[37,37]})
 (B:Nat)(v:Value)(n:Nat)(f:Nat->ByteArray)(hs:a.eval s=v)(hown:Ew w B v n f)(ad:Option Addr)(c:Nat)(y:ByteArray)(hx:a.eval x= .slice ad 1 c)(hc:Bn w ad 1 [.string y])
 (hm:n<=1048576)(hB:B<=w.heap.size)(d:Option Nat)(hd:o.dst=d)
 (h:∀a' c' w',Ew w' B (.slice a' (n+1) c') (n+1) (Cv n f y)->w.grownBy w' v.ownBlock->((Value.slice a' (n+1) c').ownBlock=v.ownBlock∨(Value.slice a' (n+1) c').ownBlock=some w.heap.size)->K (a.put d (.slice a' (n+1) c')) w'):
 if Region.wanted o (yielded ops a.tmps)=true then Oper.wp prog o a w K Q else E:=by
 have hw:Region.wanted o (yielded ops a.tmps)=true:=by simp[Region.wanted,hgd]
 rw[if_pos hw];refine Dg underlying37 Tryz.info9 rfl (by omega) w s x ho B v n (If n f) hs hown ad 1 c [.string y] hx rfl hc (fun u hu=>by simp at hu;subst hu;rfl) (by omega) (by omega) hB fun a' c' w' h2 h3 h4=>?_;rw[<-OH]at h2;rw[hd];exact h a' c' w' h2 h3 h4
theorem PE(w:World)(B P:Nat)(s:Al)(g ca q co:Nat)(lt:List Ac)(lo:List Ab)(t:Nat)(m:Value)(h:Gh w B P s g ca q co lt lo t m)(hB:B<=w.heap.size)(u:Nat)(hu:u<lo.length)(O:Ab)(hO:O=lo[u])(hd:∀x∈lo,x.data.size<=maxLen)(hk:s.kind=9)(hf:O.items.n≠8)(hl:O.items.n<=1000)(ht:O.items.tight)(hsd:s.data.size<=maxLen):
 Calls prog 123 #[.pointer (some ⟨P,0,none⟩),.agg #[.pointer (some ⟨q,u*10,none⟩)]] w fun e w'=>∃(a:Option Addr) (cc:Nat),e= .returned (.tuple #[.string ⟨#[]⟩,.nilIface])/\Gh w' B P s g ca q co lt (lo.set u ⟨O.id,O.kind,O.up,O.b1,O.c1,O.data,⟨a,O.items.n+1,cc,Cv O.items.n O.items.f s.data⟩,O.own,O.b2,O.c2⟩) t m/\Below B w w':=by
 obtain⟨CO,ql⟩:=h.st.cell10 hu hd;rw[<-hO]at CO;have n1:Nw (w.alloc (.cells #[.pointer (some ⟨q,u*10,none⟩)] 179)):=⟨⟩;have b0:Below w.heap.size w n1:=(Below.refl _ w).alloc (Nat.le_refl _) _;have n5:Nv (.pointer (some ⟨q,u*10,none⟩)):=⟨⟩;have c0:(n1:World).cell? ⟨w.heap.size,0,none⟩=some (.pointer (some ⟨q,u*10,none⟩)):=by go_simp
 obtain⟨⟨k0,k1,k2,k3,k4,k5,k6,k7,k8,k9⟩,k10,k11,k12,k13⟩:=(h.wk.below b0).work;have y6:(n1:World).cell? ⟨q,u*10+6,none⟩=some (.slice O.items.a O.items.n O.items.k):=(CO.below ql b0).c6;have HA:=hid (h.below b0);have B0:=hid b0;have HO:=hid hO;have ON:=hid (show O.new B w by rw[hO];exact h.st.on _ (List.getElem_mem hu));have OC:=hid (show O.items.n<=O.items.k/\O.items.k<=maxLen by rw[hO];exact h.st.oc _ (List.getElem_mem hu));rw[hk]at k1;have f1:¬(O.items.n:Int)=8:=by omega
 have f2:((O.items.n:Int)==8)=false:=by simpa using f1
 have n2:No (.cells (LG s g lt.length ca q lo.length co t m) 89):=⟨⟩;have Z1:Hid ((fun W=>Ah W P n2/\W.cell? ⟨w.heap.size,0,none⟩=some (.pointer (some ⟨q,u*10,none⟩))/\W.cell? ⟨q,u*10+6,none⟩=some (.slice O.items.a O.items.n O.items.k)) (n1:World).drew):=hid ⟨HA.out.wk,c0,y6⟩;have n4:No (.cells #[.string s.data] 9):=⟨⟩;have BA:Below (n1:World).heap.size n1 ((n1:World).alloc n4).drew:=((Below.refl _ n1).alloc (Nat.le_refl _) _).drew;have ql1:q<(n1:World).heap.size:=Nat.lt_of_lt_of_le ql b0.size;have ZA:Hid ((fun W=>Ah W P n2/\W.cell? ⟨w.heap.size,0,none⟩=some (.pointer (some ⟨q,u*10,none⟩))/\W.cell? ⟨q,u*10+6,none⟩=some (.slice O.items.a O.items.n O.items.k)) ((n1:World).alloc n4).drew):=hid ⟨HA.out.wk.below BA,(BA.cell (p:=⟨w.heap.size,0,none⟩) (by simp)).trans c0,(BA.cell (p:=⟨q,u*10+6,none⟩) ql1).trans y6⟩;have SA:=hid (HA.out.below BA);have BB:=hid (Af B0.out BA);have NA:=hid (ON.out.2.1.below BB.out);have LA:Hid (Bn ((n1:World).alloc n4).drew (some ⟨w.heap.size+1,0,none⟩) 1 [.string s.data]):=hid (by have h:=Ih n1 s.data;rw[show(n1:World).heap.size=w.heap.size+1 from by simp]at h;exact h);have HT:=hid ht;clear h hO CO b0 hk hf;go_enter func123,ntmps123
 go_upto_region 4 with fail
 refine An 18 (fun W=>Ah W P n2/\W.cell? ⟨w.heap.size,0,none⟩=some (.pointer (some ⟨q,u*10,none⟩))/\W.cell? ⟨q,u*10+6,none⟩=some (.slice O.items.a O.items.n O.items.k)) (by kernel_rfl) ?_;have n3:Nv (.pointer (some ⟨w.heap.size,0,none⟩)):=⟨⟩;refine tq 0 23 n3 Z1.out ?_;simp only[ap,List.set];refine tq 1 24 n3 Z1.out ?_;simp only[ap,List.set];refine tq 2 25 n5 Z1.out ?_ (hy:=fun W h=>by have y:=h.2.1;go_simp);simp only[ap,List.set];refine tq 3 26 n3 Z1.out ?_;simp only[ap,List.set];refine tq 4 27 n3 Z1.out ?_;simp only[ap,List.set];refine tq 5 28 n5 Z1.out ?_ (hy:=fun W h=>by have y:=h.2.1;go_simp);simp only[ap,List.set];refine tq 6 29 n5 Z1.out ?_;simp only[ap,List.set];refine tq 7 30 (.pointer (some ⟨q,u*10+6,none⟩)) Z1.out ?_;simp only[ap,List.set];refine tq 8 31 (.slice O.items.a O.items.n O.items.k) Z1.out ?_ (hy:=fun W h=>by have y:=h.2.2;go_simp);simp only[ap,List.set];have n6:Nv (.pointer (some ⟨P,0,none⟩)):=⟨⟩;refine tq 9 32 n6 Z1.out ?_;simp only[ap,List.set];refine tq 10 33 n6 Z1.out ?_;simp only[ap,List.set];refine tq 11 34 n6 Z1.out ?_;simp only[ap,List.set];refine tq 12 35 (.pointer (some ⟨P,5,none⟩)) Z1.out ?_;simp only[ap,List.set];refine tq 13 36 (.string s.data) Z1.out ?_ (hy:=fun W h=>by obtain⟨⟨k0,k1,k2,k3,k4,k5,k6,k7,k8,k9⟩,k10,k11,k12,k13⟩:=h.1.work;go_simp);simp only[ap,List.set];refine Ae (i:=14) (by kernel_rfl) rfl ?_;intro K hK;go_simp;refine hK.out _ _ (fun _=>ZA.out) ?_;clear hK K;try simp only[ap,List.set]
 refine Ae (i:=15) (by kernel_rfl) rfl ?_;intro K hK;refine Kg (by rfl) _ _ (by rfl) B _ O.items.n O.items.f (by rfl) (UM NA.out OC.out HT.out) (some ⟨w.heap.size+1,0,none⟩) 1 s.data (by rfl) LA.out (by omega) (Nat.le_trans hB BB.out.size) (some 38) (by rfl) ?_;intro a3 c3 w3 o3 g3 e3;have NL:=Ew.newL o3 (by omega) (fun i hi=>by unfold Cv;split;exact NA.out.1.2.2 i (by assumption);exact hsd);obtain⟨S4,⟨cur,hcu⟩,hBq,wk3,rw3⟩:=SA.out.itemRow hu HO.out (Kt NA.out HT.out) g3 (d:=⟨a3,O.items.n+1,c3,Cv O.items.n O.items.f s.data⟩) NL.1 NL.2 (fun b hb=>by
  unfold As.bs at hb;simp only[Nat.zero_lt_succ,if_true]at hb;rcases e3 with e|e
  ·refine .inl (Kt NA.out HT.out b ?_).1;rw[<-e];cases a3 with
   |none=>cases hb
   |some p=>simp at hb;rw[hb];rfl
  ·refine .inr ?_;cases a3 with
   |none=>cases hb
   |some p=>simp at hb;subst hb;simp only[Value.ownBlock,Option.some.injEq]at e;rw[e];exact Nat.le_refl _)
 have n7:Nw ((w.alloc (.cells #[.pointer (some ⟨q,u*10,none⟩)] 179)).alloc n4):=⟨⟩;have gq:∀P',P'<(n7:World).drew.heap.size->P'≠P'∨((Value.slice O.items.a O.items.n O.items.k).ownBlock≠some P')->w3.heap[P']? =(n7:World).drew.heap[P']?:=fun P' h1 h2=>g3.block P' h1 (fun e=>by rcases h2 with h2|h2;exact h2 rfl;exact h2 e.symm);have c6:w3.cell? ⟨q,u*10+6,none⟩=some (.slice O.items.a O.items.n O.items.k):=(World.cell?_of_block (a:=⟨q,u*10+6,none⟩) (gq q (Nat.lt_of_lt_of_le ql1 BA.size) (.inr fun e=>(rw3 q e).2.1 rfl))).trans ZA.out.2.2;have hH:w.heap.size<B∨B<=w.heap.size:=by omega
 have cH:w3.cell? ⟨w.heap.size,0,none⟩=some (.pointer (some ⟨q,u*10,none⟩)):=(World.cell?_of_block (a:=⟨w.heap.size,0,none⟩) (gq w.heap.size (Nat.lt_of_lt_of_le (by simp) BA.size) (.inr fun e=>by
  have:=(ON.out.2.1.bs.2 _ (Kt NA.out HT.out _ e).1).2;omega))).trans ZA.out.2.1
 have Z3:Hid ((fun W=>Ah W P n2/\W.cell? ⟨w.heap.size,0,none⟩=some (.pointer (some ⟨q,u*10,none⟩))/\W.cell? ⟨q,u*10+6,none⟩=some (.slice O.items.a O.items.n O.items.k)) w3):=hid ⟨wk3,cH,c6⟩;have S4':=hid S4;have gf:=hcu.warm;have B3:Hid (Below B w w3):=hid ((BB.out.mono hB).trans (below_grown g3 (Nat.le_trans hB BB.out.size) (fun j e=>(rw3 j e).1)));have KK:=hK;refine KK.out _ _ (fun _=>Z3.out) ?_;clear hK KK K S4 NL o3 g3 e3 wk3 rw3 gq cH hH;simp only[ap,List.set];refine Ae (i:=16) (by kernel_rfl) rfl ?_;intro K hK;go_simp;refine hK.out _ _ (fun _=>Z3.out) ?_;clear hK K;try simp only[ap,List.set]
 refine Ae (i:=17) (by kernel_rfl) rfl ?_;intro K hK;go_simp;refine hK.out _ _ (fun _=>Z3.out) ?_;clear hK K;try simp only[ap,List.set]
 refine Ae (i:=18) (by kernel_rfl) rfl ?_;intro K hK;go_simp;refine hK.out _ _ (fun h=>absurd h (by decide)) ?_;clear hK K;try simp only[Act.put]
 refine Ak (by kernel_rfl) ?_ _;have B4:=hid (B3.out.setCell (p:=⟨q,u*10+6,none⟩) hBq (.slice a3 (O.items.n+1) c3));go_wp2;go_ret2;exact⟨rfl,⟨a3,c3,S4'.out⟩,B4.out⟩
theorem Gh.takeF{wr:World}{B P:Nat}{s:Al}{g ca q co:Nat}{lt:List Ac}{lo:List Ab}{t:Nat}{m:Value}(h:Gh wr B P s g ca q co lt lo t m){u b:Nat}(hu:u<lo.length){O:Ab}(hO:O=lo[u])(hn:O.items.n≠0)(hb:O.items.a=some ⟨b,0,none⟩){o kk:Nat}(hok:O.items.n=1∨o=1):
 Qt (wr.setCell ⟨q,u*10+6,none⟩ (.slice (some ⟨b,o,none⟩) (O.items.n-1) kk)) B P s g ca q co lt (lo.set u ⟨O.id,O.kind,O.up,O.b1,O.c1,O.data,⟨some ⟨b,o,none⟩,O.items.n-1,kk,fun i=>O.items.f (i+1)⟩,O.own,O.b2,O.c2⟩) t m/\B<=q/\∃cur,Ah wr q (.cells cur 40):=by
 have ho:=h.st.o;obtain⟨cur,hcur⟩:∃cur,Ah wr q (.cells cur 40):=by
  rcases ho.2 with⟨hv,_⟩|⟨g',cap,cur,hv,_,hgg,_⟩
  ·cases hv
  ·cases hv;exact⟨cur,hgg⟩
 have hBg:B<=q:=(World.ownsRow.lt ho q rfl).1;have el:(lo.set u (⟨O.id,O.kind,O.up,O.b1,O.c1,O.data,⟨some ⟨b,o,none⟩,O.items.n-1,kk,fun i=>O.items.f (i+1)⟩,O.own,O.b2,O.c2⟩:Ab)).length=lo.length:=by simp
 have n1:Nv (.slice (some ⟨b,o,none⟩) (O.items.n-1) kk):=⟨⟩;have kl:=Ap (i:=u*10+6) hcur (by decide) n1;have ho':=(World.ownsRow.stored ho (u*10+6) n1).1;have hx:=h.st.on _ (List.getElem_mem hu);rw[<-hO]at hx;obtain⟨b',m',F,e',hB',hm',hr⟩:=hx.2.1.2 (by omega);rw[hb]at e';cases e';obtain⟨b'',off,e'',hlt,hcc⟩:=hx.2.1.1.2.1 (by omega);rw[hb]at e'';cases e'';have tn:(⟨some ⟨b,o,none⟩,O.items.n-1,kk,fun i=>O.items.f (i+1)⟩:As).newF B wr:=by
  refine⟨⟨by have:=hx.2.1.1.1;show O.items.n-1<=maxLen;omega,fun h0=>⟨b,o,rfl,hlt,fun i hi=>?_⟩,fun i hi=>hx.2.1.1.2.2 (i+1) (by simp only at hi;omega)⟩,fun h0=>⟨b,o,m',F,rfl,hB',by simp only at h0 ⊢;omega,hr⟩⟩;have hi':i+1<O.items.n:=by simp only at hi;omega
  have eo:o=1:=by omega
  subst eo;have:=hcc (i+1) hi';rw[show 1+i=0+(i+1) from by omega];exact this
 have bse:O.items.bs=[b]:=by unfold As.bs;rw[if_pos (by omega),hb]
 have tb:∀x∈(⟨some ⟨b,o,none⟩,O.items.n-1,kk,fun i=>O.items.f (i+1)⟩:As).bs,x∈O.items.bs:=fun x hx'=>by
  rw[bse];unfold As.bs at hx';split at hx'
  ·exact hx'
  ·cases hx'
 have td:(⟨some ⟨b,o,none⟩,O.items.n-1,kk,fun i=>O.items.f (i+1)⟩:As).bs.Nodup:=by
  unfold As.bs;split
  ·simp
  ·simp
 have hn':O.cb.Nodup:=C7 (L:=lo.map Ab.cb) (S:=(lt.map Ac.cb).flatten) (t:=u) (by simp[hu,hO]) (List.perm_append_comm.nodup_iff.2 h.ap.c);have hi:O.own.bs.Nodup:=C7 (L:=lo.map fun x=>x.own.bs) (S:=(lt.map fun x=>x.own.bs).flatten) (t:=u) (by simp[hu,hO]) (List.perm_append_comm.nodup_iff.2 h.ap.i);have nq:∀x∈lo,∀b∈x.items.bs,b≠q:=fun x hx2 b2 hb2 e=>by
  have hxx:=(h.st.on x hx2).2.1;unfold As.bs at hb2;split at hb2
  ·rename_i h0;obtain⟨b3,m3,F3,e3,_,_,c3,hc3,_⟩:=hxx.2 h0;rw[e3]at hb2;have:=List.mem_singleton.1 hb2;simp only at this;subst this;have hq:=hcur;unfold Ah at hq;rw[<-e,hc3]at hq;simp at hq
  ·cases hb2
 have strF:∀{c:As},c.newF B wr->(∀b∈c.bs,b≠q)->c.newF B (wr.setCell ⟨q,u*10+6,none⟩ (.slice (some ⟨b,o,none⟩) (O.items.n-1) kk)):=fun{c} hc hne=>hc.of (by simp[World.setCell]) (fun b2 hb2=>Below.heap_setCell _ _ _ _ (fun(e:b2=q)=>hne b2 hb2 e));refine⟨⟨⟨h.st.t.set hcur (by decide) _,?_,fun y hy=>(h.st.tn y hy).keeps kl,fun y hy=>?_⟩,h.ap.setO h.st hu (x:=⟨O.id,O.kind,O.up,O.b1,O.c1,O.data,⟨some ⟨b,o,none⟩,O.items.n-1,kk,fun i=>O.items.f (i+1)⟩,O.own,O.b2,O.c2⟩) hn' (fun b hb=> .inl (by rw[<-hO];exact hb)) hi (fun b hb=> .inl (by rw[<-hO];exact hb)) td (fun b hb=> .inl (by rw[<-hO];exact tb b hb)),by rw[el];exact h.wk.other (Ne.symm h.setQ) _⟩,hBg,cur,hcur⟩
 ·unfold Ba;have e:=CI (f:=Ab.cs) Ab.cs_len (l:=lo) (t:=u) (x:=(⟨O.id,O.kind,O.up,O.b1,O.c1,O.data,⟨some ⟨b,o,none⟩,O.items.n-1,kk,fun i=>O.items.f (i+1)⟩,O.own,O.b2,O.c2⟩:Ab)) (u:= .slice (some ⟨b,o,none⟩) (O.items.n-1) kk) (i:=6) hu (by omega) (by rw[<-hO];rfl);rw[el];unfold AJ;rw[<-e];exact ho'
 ·obtain⟨j,hj,rfl⟩:=List.getElem_of_mem hy;rw[List.getElem_set];split
  ·exact⟨hx.1.keeps kl,strF tn (fun b2 hb2=>nq O (by rw[hO];exact List.getElem_mem hu) b2 (tb b2 hb2)),hx.2.2.1.keeps kl,hx.2.2.2.keeps kl⟩
  ·have hj':j<lo.length:=(by simpa using hj);have hy':=h.st.on _ (List.getElem_mem hj');exact⟨hy'.1.keeps kl,strF hy'.2.1.f (nq _ (List.getElem_mem hj')),hy'.2.2.1.keeps kl,hy'.2.2.2.keeps kl⟩
theorem Oj(w:World)(B P:Nat)(s:Al)(g ca q co:Nat)(lt:List Ac)(lo:List Ab)(t:Nat)(m:Value)(h:Gh w B P s g ca q co lt lo t m)(hB:B<=w.heap.size)(u:Nat)(hu:u<lo.length)(O:Ab)(hO:O=lo[u])(hd:∀x∈lo,x.data.size<=maxLen)(hk:s.kind=10)(hf:O.items.n≠0)(hl:O.items.n<=1000):
 Calls prog 123 #[.pointer (some ⟨P,0,none⟩),.agg #[.pointer (some ⟨q,u*10,none⟩)]] w fun e w'=>e= .returned (.tuple #[.string (O.items.f 0),.nilIface])/\(∃(a:Option Addr) (kk:Nat),Qt w' B P s g ca q co lt (lo.set u ⟨O.id,O.kind,O.up,O.b1,O.c1,O.data,⟨a,O.items.n-1,kk,fun i=>O.items.f (i+1)⟩,O.own,O.b2,O.c2⟩) t m)/\Below B w w':=by
 obtain⟨CO,ql⟩:=h.st.cell10 hu hd;rw[<-hO]at CO;have n7:Nw (w.alloc (.cells #[.pointer (some ⟨q,u*10,none⟩)] 179)):=⟨⟩;have b0:Below w.heap.size w n7:=(Below.refl _ w).alloc (Nat.le_refl _) _;have c0:(n7:World).cell? ⟨w.heap.size,0,none⟩=some (.pointer (some ⟨q,u*10,none⟩)):=by go_simp
 obtain⟨⟨k0,k1,k2,k3,k4,k5,k6,k7,k8,k9⟩,k10,k11,k12,k13⟩:=(h.wk.below b0).work;have y6:(n7:World).cell? ⟨q,u*10+6,none⟩=some (.slice O.items.a O.items.n O.items.k):=(CO.below ql b0).c6;have HA:=hid (h.below b0);have B0:=hid b0;have HO:=hid hO;have ON:=hid (show O.new B w by rw[hO];exact h.st.on _ (List.getElem_mem hu));have OC:=hid (show O.items.n<=O.items.k/\O.items.k<=maxLen by rw[hO];exact h.st.oc _ (List.getElem_mem hu));rw[hk]at k1;have f1:¬(O.items.n:Int)=0:=by omega
 have f2:((O.items.n:Int)==0)=false:=by simpa using f1
 obtain⟨b,mm,F,ea,hb1,hb2,hr⟩:=ON.out.2.1.2 (by omega);obtain⟨b',off,ea',hlt,hcc⟩:=ON.out.2.1.1.2.1 (by omega);rw[ea]at ea';cases ea';have i0:(n7:World).cell? ⟨b,0,none⟩=some (.string (O.items.f 0)):=(b0.cell (p:=⟨b,0,none⟩) hlt).trans (hcc 0 (by omega));rw[ea]at y6;have z0:(n7:World).drew.cell? ⟨w.heap.size,0,none⟩=some (.pointer (some ⟨q,u*10,none⟩)):=c0;have z6:(n7:World).drew.cell? ⟨q,u*10+6,none⟩=some (.slice (some ⟨b,0,none⟩) O.items.n O.items.k):=y6;have HD:=hid (HA.out.below (Below.refl _ _).drew);have n1:1<=O.items.n:=by omega
 have n2:(1:Int)<=(O.items.n:Int):=by omega
 have n3:1<=O.items.k:=Nat.le_trans n1 OC.out.1;have n4:(0:Int)<(O.items.n:Int):=by omega
 have n5:0<O.items.n:=by omega
 have n6:O.items.n<=O.items.k:=OC.out.1;by_cases hk1:O.items.k=1
 ·obtain⟨S1,hg,cur,hcu⟩:=HD.out.takeF hu HO.out hf ea (o:=0) (kk:=0) (.inl (by omega));have S1':=hid S1;have gf:=hcu.warm;have B1:=hid (((B0.out.drew).mono hB).setCell (p:=⟨q,u*10+6,none⟩) hg (.slice (some ⟨b,0,none⟩) (O.items.n-1) 0));rw[hk1]at y6 z6;clear h hO CO b0 hk hf S1 hcc;go_enter func123,ntmps123
  go_upto_region 9 with fail
  generalize (n7:World)=V at *;go_region_law fail
  all_goals(
   go_wp2;go_ret2;exact⟨rfl,⟨_,_,S1'.out⟩,B1.out⟩)
 ·obtain⟨S1,hg,cur,hcu⟩:=HD.out.takeF hu HO.out hf ea (o:=1) (kk:=O.items.k-1) (.inr rfl);have S1':=hid S1;have gf:=hcu.warm;have B1:=hid (((B0.out.drew).mono hB).setCell (p:=⟨q,u*10+6,none⟩) hg (.slice (some ⟨b,1,none⟩) (O.items.n-1) (O.items.k-1)));clear h hO CO b0 hk hf S1 hcc;go_enter func123,ntmps123
  go_upto_region 9 with fail
  generalize (n7:World)=V at *;go_region_law fail
  all_goals(
   go_wp2;go_ret2;exact⟨rfl,⟨_,_,S1'.out⟩,B1.out⟩)
end Go.Proofs.YtphddbnadcjhgaaGreatDoor
