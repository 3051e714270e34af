import Derived.Shelf.Strings.OnBuilder
import Derived.Shelf.Strings.Builder1
import Derived.Shelf.Strings.BuilderF
import Derived.Shelf.Strconv.Itoa4
import Derived.Shelf.Strconv.Clone
import Derived.Shelf.LaysM
import Derived.Shelf.Lays
import Derived.Ground.NamesProg
import Derived.Lib.AppendIntMem
import Derived.Test.YtdaccbddcjlkpaaGreatDoorZ11p
set_option maxRecDepth 100000
set_option maxHeartbeats 16000000
namespace Go.Proofs.YtdaccbddcjlkpaaGreatDoor
open Go.RowKit Go.Deep Go.Maps Go.Proofs.Tryz
open Go.Value renaming slice→qV,int→iT
open Go.IntKind renaming i64→qH
open Go.RowKit renaming Below→qN
def Ag.sevenF{W:World}{P t:Nat}{x0 x1 x2 x3 x4 x5 x6:Value}(h:Ag W P (.cells #[x0,x1,x2,x3,x4,x5,x6] t)):W.cell? ⟨P,0,none⟩=some x0/\W.cell? ⟨P,1,none⟩=some x1/\W.cell? ⟨P,2,none⟩=some x2/\W.cell? ⟨P,3,none⟩=some x3/\W.cell? ⟨P,4,none⟩=some x4/\W.cell? ⟨P,5,none⟩=some x5/\W.cell? ⟨P,6,none⟩=some x6:=by
 unfold Ag at h;simp[World.cell?,h]
def M9(id made b1:Int)(n1:Nat)(f1 g1:Nat->Int)(b2:Int)(n2:Nat)(f2 g2:Nat->Int)(n3:Nat)(h:Nat->Int)(bl:Int)(nl:Nat)(fl gl:Nat->Int):Bool:=
 Dz id made b1 n1 f1 g1 b2 n2 f2 g2 n3 h&&(Bb bl nl fl gl&&CX bl nl fl gl n3 h b1 n1 f1 g1)
def Ol(id made b1:Int)(n1:Nat)(f1 g1:Nat->Int)(b2:Int)(n2:Nat)(f2 g2:Nat->Int)(n3:Nat)(h:Nat->Int)(bl:Int)(nl:Nat)(fl gl:Nat->Int):Bool:=
 Dz id made b1 n1 f1 g1 b2 n2 f2 g2 n3 h&&(Bb bl nl fl gl&&CX b1 n1 f1 g1 n3 h bl nl fl gl)
def Mb(id made b1:Int)(n1:Nat)(f1 g1:Nat->Int)(b2:Int)(n2:Nat)(f2 g2:Nat->Int)(n3:Nat)(h:Nat->Int)(bl:Int)(nl:Nat)(fl gl:Nat->Int):Bool:=
 M9 id made b1 n1 f1 g1 b2 n2 f2 g2 n3 h bl nl fl gl&&Ol id made b1 n1 f1 g1 b2 n2 f2 g2 n3 h bl nl fl gl
def Oo{id made b1:Int}{n1:Nat}{f1 g1:Nat->Int}{b2:Int}{n2:Nat}{f2 g2:Nat->Int}{n3:Nat}{h:Nat->Int}(t:Dz id made b1 n1 f1 g1 b2 n2 f2 g2 n3 h=true):Bb b1 n1 f1 g1=true/\Bb b2 n2 f2 g2=true/\Cf n3 h=true:=by
 simp only[Dz,Bool.and_eq_true]at t;exact⟨t.1.1.1.2,t.1.1.2,t.1.2⟩
def Ma(id made b1:Int)(a1:Option Addr)(n1 k1:Nat)(f1 g1:Nat->Int)(b2:Int)(a2:Option Addr)(n2 k2:Nat)(f2 g2:Nat->Int)(a3:Option Addr)(n3 k3:Nat)(h:Nat->Int)(bl:Int)(al:Option Addr)(nl kl:Nat)(fl gl:Nat->Int)(w:World)(hn1:n1<=maxLen)(hn2:n2<=maxLen)(hn3:n3<=maxLen)(hc1:Bd w a1 n1 f1 g1)(hc2:Bd w a2 n2 f2 g2)(hc3:Bp w a3 n3 h)(hnl:nl<=maxLen)(hcl:Bd w al nl fl gl):
 Calls prog 183 #[.agg #[iT qH id,iT qH b1,qV a1 n1 k1,iT qH b2,qV a2 n2 k2,qV a3 n3 k3,iT qH made],.agg #[iT qH bl,qV al nl kl]] w fun e w'=>e= .returned (.bool (M9 id made b1 n1 f1 g1 b2 n2 f2 g2 n3 h bl nl fl gl))/\qN w w w':=by
 have n4:No (.cells #[iT qH id,iT qH b1,qV a1 n1 k1,iT qH b2,qV a2 n2 k2,qV a3 n3 k3,iT qH made] 53):=⟨⟩;have n5:No (.cells #[iT qH bl,qV al nl kl] 42):=⟨⟩;have hb0:=((Below.refl _ w).alloc nr n4).alloc sI n5;have yT:Ag ((w.alloc n4).alloc n5) w n4:=(Ag.new w _).alloc _;have yL:Ag ((w.alloc n4).alloc n5) (w.heap.size+1) n5:=by have:=Ag.new (w.alloc n4) n5;simpa using this
 go_enter func183,ntmps183
 go_wp2_with fail
 refine(JV _ _ _ _ _ _ f1 g1 _ _ _ _ f2 g2 _ _ _ h _ hn1 hn2 hn3 (hc1.below hb0) (hc2.below hb0) (hc3.below hb0)).mono ?_;rintro e w1 ⟨rfl,hb1⟩;have B1:qN w w w1:=hb0.trans (hb1.mono sO);have xT:=yT.below hb1;have xL:=yL.below hb1;obtain⟨x0,x1,x2,x3,x4,x5,x6⟩:=xT.sevenF;obtain⟨x7,x8⟩:=xL.two;clear yT yL hb0 hb1;by_cases t1:Dz id made b1 n1 f1 g1 b2 n2 f2 g2 n3 h=true
 ·go_wp2_with fail
  refine(It _ _ _ _ fl gl _ _ _ h _ _ _ _ f1 g1 _ hnl hn1 hn3 (hcl.below B1) (hc1.below B1) (hc3.below B1)).mono ?_;rintro e w2 ⟨rfl,hb2⟩;have B2:qN w w w2:=B1.trans (hb2.mono B1.size);clear x0 x1 x2 x3 x4 x5 x6 x7 x8 xT xL;go_wp2;go_ret;obtain⟨p1,_,p3⟩:=Oo t1;exact⟨Ah (by simp[Dn,M9,t1,p1,p3]),B2⟩
 ·have t1':Dz id made b1 n1 f1 g1 b2 n2 f2 g2 n3 h=false:=by simpa using t1
  clear t1;go_wp2;go_ret;exact⟨Ah (by simp[M9,t1']),B1⟩
def NI(id made b1:Int)(a1:Option Addr)(n1 k1:Nat)(f1 g1:Nat->Int)(b2:Int)(a2:Option Addr)(n2 k2:Nat)(f2 g2:Nat->Int)(a3:Option Addr)(n3 k3:Nat)(h:Nat->Int)(bl:Int)(al:Option Addr)(nl kl:Nat)(fl gl:Nat->Int)(w:World)(hn1:n1<=maxLen)(hn2:n2<=maxLen)(hn3:n3<=maxLen)(hc1:Bd w a1 n1 f1 g1)(hc2:Bd w a2 n2 f2 g2)(hc3:Bp w a3 n3 h)(hnl:nl<=maxLen)(hcl:Bd w al nl fl gl):
 Calls prog 162 #[.agg #[iT qH id,iT qH b1,qV a1 n1 k1,iT qH b2,qV a2 n2 k2,qV a3 n3 k3,iT qH made],.agg #[iT qH bl,qV al nl kl]] w fun e w'=>e= .returned (.bool (Ol id made b1 n1 f1 g1 b2 n2 f2 g2 n3 h bl nl fl gl))/\qN w w w':=by
 have n4:No (.cells #[iT qH id,iT qH b1,qV a1 n1 k1,iT qH b2,qV a2 n2 k2,qV a3 n3 k3,iT qH made] 53):=⟨⟩;have n5:No (.cells #[iT qH bl,qV al nl kl] 42):=⟨⟩;have hb0:=((Below.refl _ w).alloc nr n4).alloc sI n5;have yT:Ag ((w.alloc n4).alloc n5) w n4:=(Ag.new w _).alloc _;have yL:Ag ((w.alloc n4).alloc n5) (w.heap.size+1) n5:=by have:=Ag.new (w.alloc n4) n5;simpa using this
 go_enter func162,ntmps162
 go_wp2_with fail
 refine(JV _ _ _ _ _ _ f1 g1 _ _ _ _ f2 g2 _ _ _ h _ hn1 hn2 hn3 (hc1.below hb0) (hc2.below hb0) (hc3.below hb0)).mono ?_;rintro e w1 ⟨rfl,hb1⟩;have B1:qN w w w1:=hb0.trans (hb1.mono sO);have xT:=yT.below hb1;have xL:=yL.below hb1;obtain⟨x0,x1,x2,x3,x4,x5,x6⟩:=xT.sevenF;obtain⟨x7,x8⟩:=xL.two;clear yT yL hb0 hb1;by_cases t1:Dz id made b1 n1 f1 g1 b2 n2 f2 g2 n3 h=true
 ·go_wp2_with fail
  refine(It _ _ _ _ f1 g1 _ _ _ h _ _ _ _ fl gl _ hn1 hnl hn3 (hc1.below B1) (hcl.below B1) (hc3.below B1)).mono ?_;rintro e w2 ⟨rfl,hb2⟩;have B2:qN w w w2:=B1.trans (hb2.mono B1.size);clear x0 x1 x2 x3 x4 x5 x6 x7 x8 xT xL;go_wp2;go_ret;obtain⟨p1,_,p3⟩:=Oo t1;exact⟨Ah (by simp[Dn,Ol,t1,p1,p3]),B2⟩
 ·have t1':Dz id made b1 n1 f1 g1 b2 n2 f2 g2 n3 h=false:=by simpa using t1
  clear t1;go_wp2;go_ret;exact⟨Ah (by simp[Ol,t1']),B1⟩
def Nu(id made b1:Int)(a1:Option Addr)(n1 k1:Nat)(f1 g1:Nat->Int)(b2:Int)(a2:Option Addr)(n2 k2:Nat)(f2 g2:Nat->Int)(a3:Option Addr)(n3 k3:Nat)(h:Nat->Int)(bl:Int)(al:Option Addr)(nl kl:Nat)(fl gl:Nat->Int)(w:World)(hn1:n1<=maxLen)(hn2:n2<=maxLen)(hn3:n3<=maxLen)(hc1:Bd w a1 n1 f1 g1)(hc2:Bd w a2 n2 f2 g2)(hc3:Bp w a3 n3 h)(hnl:nl<=maxLen)(hcl:Bd w al nl fl gl):
 Calls prog 175 #[.agg #[iT qH id,iT qH b1,qV a1 n1 k1,iT qH b2,qV a2 n2 k2,qV a3 n3 k3,iT qH made],.agg #[iT qH bl,qV al nl kl]] w fun e w'=>e= .returned (.bool (Mb id made b1 n1 f1 g1 b2 n2 f2 g2 n3 h bl nl fl gl))/\qN w w w':=by
 have n4:No (.cells #[iT qH id,iT qH b1,qV a1 n1 k1,iT qH b2,qV a2 n2 k2,qV a3 n3 k3,iT qH made] 53):=⟨⟩;have n5:No (.cells #[iT qH bl,qV al nl kl] 42):=⟨⟩;have hb0:=((Below.refl _ w).alloc nr n4).alloc sI n5;have yT:Ag ((w.alloc n4).alloc n5) w n4:=(Ag.new w _).alloc _;have yL:Ag ((w.alloc n4).alloc n5) (w.heap.size+1) n5:=by have:=Ag.new (w.alloc n4) n5;simpa using this
 go_enter func175,ntmps175
 go_wp2_with fail
 refine(Ma _ _ _ _ _ _ f1 g1 _ _ _ _ f2 g2 _ _ _ h _ _ _ _ fl gl _ hn1 hn2 hn3 (hc1.below hb0) (hc2.below hb0) (hc3.below hb0) hnl (hcl.below hb0)).mono ?_;rintro e w1 ⟨rfl,hb1⟩;have B1:qN w w w1:=hb0.trans (hb1.mono sO);have xT:=yT.below hb1;have xL:=yL.below hb1;obtain⟨x0,x1,x2,x3,x4,x5,x6⟩:=xT.sevenF;obtain⟨x7,x8⟩:=xL.two;clear yT yL hb0 hb1;by_cases t1:M9 id made b1 n1 f1 g1 b2 n2 f2 g2 n3 h bl nl fl gl=true
 ·go_wp2_with fail
  refine(NI _ _ _ _ _ _ f1 g1 _ _ _ _ f2 g2 _ _ _ h _ _ _ _ fl gl _ hn1 hn2 hn3 (hc1.below B1) (hc2.below B1) (hc3.below B1) hnl (hcl.below B1)).mono ?_;rintro e w2 ⟨rfl,hb2⟩;have B2:qN w w w2:=B1.trans (hb2.mono B1.size);clear x0 x1 x2 x3 x4 x5 x6 x7 x8 xT xL;go_wp2;go_ret;exact⟨Ah (by simp[Mb,t1]),B2⟩
 ·have t1':M9 id made b1 n1 f1 g1 b2 n2 f2 g2 n3 h bl nl fl gl=false:=by simpa using t1
  clear t1;go_wp2;go_ret;exact⟨Ah (by simp[Mb,t1']),B1⟩
open Go Go.BigFrame Go.Shelf
open Go.Value renaming pointer→pT
open Go.Obj renaming cells→qG
open _root_.Nat renaming le_trans→qj,lt_of_lt_of_le→qv
open _root_.List renaming set→qF
open Go renaming World→qM
def Cz(w:qM){B:Nat}(E:Nat->Addr)(hB:B<=w.heap.size)(c:Int)(hc:c≠0)(i:Nat)(h0:i≠0)(h1:i<14)(h3:i≠3){r:Nat}(hr:w.heap.size=r):Told (w.alloc (qG #[.int .i64 c,.iface 314 (pT (some (E i)))] 145)) B E (.iface 141 (pT r)) c:=by
 subst hr;exact .inr ⟨hc,_,i,rfl,Ag.new w _,h0,h1,h3,hB⟩
def WI{k:Int}(h:k≠1):Fb k=252∨Fb k=254∨Fb k=256:=by
 unfold Fb;rw[if_neg h];split
 ·exact .inl rfl
 ·split
  ·exact .inr (.inl rfl)
  ·exact .inr (.inr rfl)
def WG(E:Nat->Addr)(w:qM)(B P:Nat)(s:Aj)(g ca q co:Nat)(lt:List Ae)(lo:List Ab)(t c C:Nat)(nb:Nat->Nat)(kv:Nat->Value)(K:Nat->List Int)(h:Fg w B P s g ca q co lt lo t (.map (some c)))(hN:Ei w C c lo.length (fun i=>(Aa lo i).id) q 0 nb kv K)(he:LY w E)(h14:14<=B)(hB:B<=w.heap.size)(ht:t<lt.length)(X:Ae)(hX:X=lt[t])(u:Nat)(hu:u<lo.length)(O:Ab)(hO:O=lo[u])(hd:∀x∈lo,x.data.size<=maxLen)(hto:(Lit.int .i64 s.to).wf=true)
 (CH:∀p,p<lo.length->∀W,qN w w W->Calls prog 175 #[.agg X,.agg #[.int .i64 (Aa lo p).b1,.slice (Aa lo p).c1.a (Aa lo p).c1.n (Aa lo p).c1.k]] W fun e w'=>e= .returned (.bool (Ap X (Aa lo p).b1 (Aa lo p).c1))/\qN W W w'):
 Calls prog 202 #[pT P,.agg #[pT (some ⟨q,u*10,none⟩)]] w fun e w'=>∃v,e= .returned v/\∃(c':Int) (lo':List Ab),Fg w' B P s g ca q co lt lo' t (.map (some c))/\qN B w w'/\Told w' B E v c'/\((Hq lo s.to=none/\c'=4/\lo'=lo)∨∃p,Hq lo s.to=some p/\((((Aa lo p).kind≠1∨Ap X (Aa lo p).b1 (Aa lo p).c1=false)/\c'=4/\lo'=lo)∨((Aa lo p).kind=1/\Ap X (Aa lo p).b1 (Aa lo p).c1=true/\c'=0/\lo'=(lo.set p ⟨(Aa lo p).id,(Aa lo p).kind,(Aa lo p).up,(Aa lo p).b1,(Aa lo p).c1,O.data,(Aa lo p).jA,(Aa lo p).own,(Aa lo p).b2,(Aa lo p).c2⟩)))):=by
 obtain⟨CW,gl⟩:=h.st.jJ ht;rw[<-hX]at CW;obtain⟨CO,ql⟩:=h.st.jF hu hd;rw[<-hO]at CO;have n2:Nw (w.alloc (qG #[pT (some ⟨q,u*10,none⟩)] 250)):=⟨⟩;have b0:qN w w n2:=Bg w _;have c0:(n2:qM).cell? ⟨w,0,none⟩=some (pT (some ⟨q,u*10,none⟩)):=by go_simp
 obtain⟨⟨k0,k1,k2,k3,k4,k5,k6,k7,k8,k9⟩,k10,k11,k12,k13⟩:=(h.wk.below b0).jZ;have HW:=qC h;have HE:=qC he;have HCH:=qC CH;have B0:=qC b0;have TH:=qC (Jw n2 B P s g ca q co lt lo t c C lo.length _ nb kv K (h.below b0) (hN.below b0) nr hd s.to hto);have n6:No (qG (IN s g lt.length ca q lo.length co t (.map (some c))) 175):=⟨⟩;have BX:Hid (∀W,qN (n2:qM).heap.size n2 W->Ag W P n6/\FA W g (t*7) X/\Di W q (u*10) O/\W.cell? ⟨w,0,none⟩=some (pT (some ⟨q,u*10,none⟩))):=qC (fun W hW=>⟨(HW.out.wk.below B0).below hW,(CW.below gl B0).below (qv gl B0.out.size) hW,(CO.below ql B0).below (qv ql B0.out.size) hW,(hW.cell (p:=⟨w,0,none⟩) sI).trans c0⟩);have HD:=qC hd;have wl:w.heap.size<(n2:qM).heap.size:=by simp
 clear h he CH b0 hN hX hO CW CO hd;go_enter func202,ntmps202
 go_wp2_with fail
 refine TH.out.mono ?_;rintro e w1 ⟨hr,b1⟩;have V1:=qC b1;have A1:=qC (Af B0 b1);have H1:=qC (HW.out.below A1);clear TH b1 k0 k1 k2 k3 k4 k5 k6 k7 k8 k9 k10 k11 k12 k13 c0;rcases hr with⟨hf,rfl⟩|⟨p,hf,rfl⟩
 ·have HF:Hid (Hq lo s.to=none):=qC hf;clear hf;have a0:=bL 245 w1;have n9:Nw (w1.alloc (qG #[pT none] 250)):=⟨⟩;have b2:qN w1 w1 n9:=Bg w1 _;have A2:=qC (Af A1 b2);have e6:=(HE.out.below h14 (A2.out.mono hB) 6 qQ qQ).1;have sz:B<=(n9:qM).heap.size:=qj hB A2.out.size;go_wp2_with fail
  refine(Bv 314 (pT (some (E 6))) _).mono ?_;rintro e w9 ⟨rfl,rfl⟩;go_wp2;go_ret;have b3:=Af A2 (Bg _ (qG #[.int .i64 4,.iface 314 (pT (some (E 6)))] 145));exact⟨_,rfl,4,lo,HW.out.below b3,b3.mono hB,Cz _ E sz 4 qX 6 qX qX qX qZ,.inl ⟨HF,rfl,rfl⟩⟩
 ·have HF:Hid (Hq lo s.to=some p):=qC hf;obtain⟨hp,_⟩:=AH hf;have eo:lo[p]'hp=Aa lo p:=by simp[Aa,hp]
  have HP:=qC eo;clear hf eo;by_cases h1:(Aa lo p).kind=1
  ·have ty:Fb (Aa lo p).kind=250:=(by rw[h1];rfl);rw[ty];have H1':=qC h1;clear ty h1;have n4:Na #[pT (some ⟨q,p*10,none⟩)]:=⟨⟩;have a0:=Rw 245 (.agg n4) w1;have n1:Nw (w1.alloc (qG n4 250)):=⟨⟩;have b2:qN w1 w1 n1:=Bg w1 _;have V2:=qC (Af V1 b2);have A2:=qC (Af A1 b2);have H2:=qC (HW.out.below A2);have d0:(n1:qM).cell? ⟨w1,0,none⟩=some (pT (some ⟨q,p*10,none⟩)):=(by go_simp);clear b2;go_upto_region 4 with fail
   have D0:=qC (Below.refl (n1:qM).heap.size n1).drew;have BY:Hid (∀W,qN (n1:qM).heap.size n1 W->Ag W P n6/\FA W g (t*7) X/\Di W q (p*10) (Aa lo p)/\W.cell? ⟨w1,0,none⟩=some (pT (some ⟨q,p*10,none⟩))):=qC (fun W hW=>⟨(BX W (Af V2 hW)).1,(BX W (Af V2 hW)).2.1,by
    have:=((H2.out.below hW).st.jF hp HD).1;rw[HP.out]at this;exact this,(hW.cell (p:=⟨w1,0,none⟩) sI).trans d0⟩)
   have ql2:∀W,qN (n1:qM).heap.size n1 W->q<W.heap.size:=fun W hW=>((H2.out.below hW).st.jF hp HD).2;have EL:Hid (∀args w,(callFunc 198 args).run prog w= .ok (.enter 198 args) w):=qC (enters_of func198 kR rfl);have EC:Hid (∀args w,(callFunc 175 args).run prog w= .ok (.enter 175 args) w):=qC (enters_of func175 kR rfl);have n5:Na #[.int .i64 (Aa lo p).b1,.slice (Aa lo p).c1.a (Aa lo p).c1.n (Aa lo p).c1.k]:=⟨⟩;have P1:Hid (Calls prog 198 #[.agg n4] (n1:qM).drew fun e w'=>∃v,e= .returned v/\(v= .agg n5/\qN (n1:qM).drew.heap.size (n1:qM).drew w')):=qC ((MC q (p*10) (Aa lo p).b1 (Aa lo p).c1 (n1:qM).drew (ql2 _ D0) (BY _ D0).2.2.1.c3 (BY _ D0).2.2.1.c4).mono fun _ _ h=>⟨_,h.1,rfl,h.2⟩);refine Am 11 (fun W=>qN (n1:qM).heap.size n1 W) kR ?_;have n8:Nv (pT P):=⟨⟩;refine tr 0 22 n8 D0 ?_;refine tr 1 23 n8 D0 ?_;refine tr 2 24 (pT (some ⟨P,12,none⟩)) D0 ?_;have n7:Nv (pT (some ⟨g,t*7,none⟩)):=⟨⟩;refine tr 3 25 n7 D0 ?_ (hy:=fun W h=>by obtain⟨⟨k0,k1,k2,k3,k4,k5,k6,k7,k8,k9⟩,k10,k11,k12,k13⟩:=(BY W h).1.jZ;go_simp);refine tr 4 26 n7 D0 ?_;have n3:Na X:=⟨⟩;refine tr 5 27 (.agg n3) D0 ?_ (hy:=fun W h=>by have C:=(BY W h).2.1;have y0:=C.c0;have y1:=C.c1;have y2:W.cell? ⟨g,t*7+2,none⟩=some (.slice X.c1.a X.c1.n X.c1.k):=C.c2;have y3:=C.c3;have y4:W.cell? ⟨g,t*7+4,none⟩=some (.slice X.c2.a X.c2.n X.c2.k):=C.c4;have y5:W.cell? ⟨g,t*7+5,none⟩=some (.slice X.own.a X.own.n X.own.k):=C.c5;have y6:=C.c6;go_simp);refine tr 6 28 (pT (w1)) D0 ?_;refine tr 7 29 (.agg n4) D0 ?_ (hy:=fun W h=>by have y:=(BY W h).2.2.2;go_simp);refine Ac (i:=8) kR rfl ?_;intro K hK;refine An qK 198 _ _ qK EL _ qK (some 30) qK _ P1 ?_;rintro v w3 ⟨rfl,b3⟩;have V3:=qC (Af D0 b3);refine hK _ _ (fun _=>V3) ?_;clear hK K b3 P1;simp only[ap,qF];have P2:Hid (Calls prog 175 #[.agg n3,.agg n5] w3 fun e w'=>∃v,e= .returned v/\(v= .bool (Ap X (Aa lo p).b1 (Aa lo p).c1)/\qN w3 w3 w')):=qC ((HCH p hp _ (Af A2 V3)).mono fun _ _ h=>⟨_,h.1,rfl,h.2⟩);refine Ac (i:=9) kR rfl ?_;intro K hK;refine Ay qK 175 _ _ _ qK EC _ _ qK qK (some 31) qK _ P2 ?_;rintro v w4 ⟨rfl,b4⟩;have V4:=qC (Af V3 b4);refine hK _ _ (fun _=>V4) ?_;clear hK K b4 P2;simp only[ap,qF];refine tr 10 32 (.bool (!Ap X (Aa lo p).b1 (Aa lo p).c1)) V4 ?_;refine Ai kR ?_ _;have A4:=qC (Af A2 V4);have sz:B<=w4.heap.size:=qj hB A4.out.size;cases hc:Ap X (Aa lo p).b1 (Aa lo p).c1 with
   |false=>
    have e8:=(HE.out.below h14 (A4.out.mono hB) 8 qQ qQ).1;go_wp2_with fail
    refine(Bv 314 (pT (some (E 8))) _).mono ?_;rintro e w9 ⟨rfl,rfl⟩;go_wp2;go_ret;have b3:=Af A4 (Bg _ (qG #[.int .i64 4,.iface 314 (pT (some (E 8)))] 145));exact⟨_,rfl,4,lo,HW.out.below b3,b3.mono hB,Cz _ E sz 4 qX 8 qX qX qX qZ,.inr ⟨p,HF,.inl ⟨.inr hc,rfl,rfl⟩⟩⟩
   |true=>
    have HC:=qC hc;clear hc;have W4:=qC (HW.out.below A4);have WD:=qC (W4.out.below (Below.refl _ w4).drew);obtain⟨S1,hg,cur,hcu⟩:=WD.out.setData (d:=O.data) hp HP.out.symm;have S1':=qC S1;have gf:=hcu.jC;have B5:=qC (((A4.out.drew).mono hB).setCell (p:=⟨q,p*10+5,none⟩) hg (.string O.data));have y0:w4.drew.cell? ⟨w1,0,none⟩=some (pT (some ⟨q,p*10,none⟩)):=(BY _ V4).2.2.2;have y1:w4.drew.cell? ⟨w,0,none⟩=some (pT (some ⟨q,u*10,none⟩)):=(BX _ (Af V2 V4)).2.2.2;have y2:w4.drew.cell? ⟨q,u*10+5,none⟩=some (.string O.data):=(BX _ (Af V2 V4)).2.2.1.c5;have y3:w4.drew.cell? ⟨q,p*10+5,none⟩=some (.string (Aa lo p).data):=(BY _ V4).2.2.1.c5;clear S1 d0;go_upto_region 6 with fail
    go_region_law fail
    all_goals(
     go_wp2;go_ret;exact⟨_,rfl,0,_,S1',B5,.inl ⟨rfl,rfl⟩,.inr ⟨p,HF,.inr ⟨H1',HC,rfl,rfl⟩⟩⟩)
  ·have h2:∃ty,Fb (Aa lo p).kind=ty/\(ty=252∨ty=254∨ty=256):=⟨_,rfl,WI h1⟩;obtain⟨ty,e1,e2⟩:=h2;rw[e1];have HK:=qC h1;have n10:Nw (w1.alloc (qG #[pT none] 250)):=⟨⟩;have b2:qN w1 w1 n10:=Bg w1 _;have A2:=qC (Af A1 b2);have e6:=(HE.out.below h14 (A2.out.mono hB) 6 qQ qQ).1;have sz:B<=(n10:qM).heap.size:=qj hB A2.out.size;have a0:=Sn 245 ty (.agg #[pT (some ⟨q,p*10,none⟩)]) w1 (by rcases e2 with rfl|rfl|rfl<;>decide);clear e1 h1 b2 e2
   (
    go_wp2_with fail
    refine(Bv 314 (pT (some (E 6))) _).mono ?_;rintro e w9 ⟨rfl,rfl⟩;go_wp2;go_ret;have b3:=Af A2 (Bg _ (qG #[.int .i64 4,.iface 314 (pT (some (E 6)))] 145));exact⟨_,rfl,4,lo,HW.out.below b3,b3.mono hB,Cz _ E sz 4 qX 6 qX qX qX qZ,.inr ⟨p,HF,.inl ⟨.inl HK,rfl,rfl⟩⟩⟩)
open Go.Value renaming string→sT
open _root_.List renaming getElem_mem→qk,getElem→jW,perm_append_comm→jz
open Go.Region renaming wanted→jU
open _root_.Option renaming some→jV
open Go.World renaming ownsRow→qq
variable {w:qM}{B:Nat}{c:AE}
def QA(E:Nat->Addr)(w:qM)(B P:Nat)(s:Aj)(g ca q co:Nat)(lt:List Ae)(lo:List Ab)(t:Nat)(m:Value)(h:Fg w B P s g ca q co lt lo t m)(he:LY w E)(h14:14<=B)(hB:B<=w.heap.size)(u:Nat)(hu:u<lo.length)(O:Ab)(hO:O=lo[u])(hd:∀x∈lo,x.data.size<=maxLen)(hk:s.kind=9)(hf:O.jA.n=8):
 Calls prog 186 #[pT P,.agg #[pT (some ⟨q,u*10,none⟩)]] w fun e w'=>∃v,e= .returned (.tuple #[sT ⟨#[]⟩,v])/\qN B w w'/\Told w' B E v 5/\Fg w' B P s g ca q co lt lo t m:=by
 obtain⟨CO,ql⟩:=h.st.jF hu hd;rw[<-hO]at CO;have n1:Nw (w.alloc (qG #[pT (some ⟨q,u*10,none⟩)] 252)):=⟨⟩;have b0:qN w.heap.size w n1:=Bg w _;have c0:(n1:qM).cell? ⟨w.heap.size,0,none⟩=some (pT (some ⟨q,u*10,none⟩)):=by go_simp
 obtain⟨⟨k0,k1,k2,k3,k4,k5,k6,k7,k8,k9⟩,k10,k11,k12,k13⟩:=(h.wk.below b0).jZ;have y6:(n1:qM).cell? ⟨q,u*10+6,none⟩=some (qV O.jA.a O.jA.n O.jA.k):=(CO.below ql b0).c6;have HA:=qC (h.below b0);have B0:=qC b0;have HE:=qC he;have HO:=qC hO;have ON:=qC (show O.new B w by rw[hO];exact h.st.on _ (qk hu));have OC:=qC (show O.jA.n<=O.jA.k/\O.jA.k<=maxLen by rw[hO];exact h.st.oc _ (qk hu));rw[hk]at k1;rw[hf]at y6;have e5:=(HE.out.below h14 (B0.out.mono hB) 12 qQ qQ).1;have sz:B<=(n1:qM).heap.size:=qj hB B0.out.size;clear h he hO CO b0 hk hf;go_enter func186,ntmps186
 go_wp2_with fail
 refine(De 5 314 (pT (some (E 12))) _).mono ?_;rintro e w9 ⟨rfl,rfl⟩;go_wp2;go_ret2;have b3:=Af B0.out (Bg _ (qG #[.int .i64 5,.iface 314 (pT (some (E 12)))] 145));exact⟨_,rfl,b3.mono hB,Cz _ E sz 5 qX 12 qX qX qX qZ,HA.out.below (Bg _ _)⟩
def Qn(E:Nat->Addr)(w:qM)(B P:Nat)(s:Aj)(g ca q co:Nat)(lt:List Ae)(lo:List Ab)(t:Nat)(m:Value)(h:Fg w B P s g ca q co lt lo t m)(he:LY w E)(h14:14<=B)(hB:B<=w.heap.size)(u:Nat)(hu:u<lo.length)(O:Ab)(hO:O=lo[u])(hd:∀x∈lo,x.data.size<=maxLen)(hk:s.kind=10)(hf:O.jA.n=0):
 Calls prog 186 #[pT P,.agg #[pT (some ⟨q,u*10,none⟩)]] w fun e w'=>∃v,e= .returned (.tuple #[sT ⟨#[]⟩,v])/\qN B w w'/\Told w' B E v 6/\Fg w' B P s g ca q co lt lo t m:=by
 obtain⟨CO,ql⟩:=h.st.jF hu hd;rw[<-hO]at CO;have n1:Nw (w.alloc (qG #[pT (some ⟨q,u*10,none⟩)] 252)):=⟨⟩;have b0:qN w.heap.size w n1:=Bg w _;have c0:(n1:qM).cell? ⟨w.heap.size,0,none⟩=some (pT (some ⟨q,u*10,none⟩)):=by go_simp
 obtain⟨⟨k0,k1,k2,k3,k4,k5,k6,k7,k8,k9⟩,k10,k11,k12,k13⟩:=(h.wk.below b0).jZ;have y6:(n1:qM).cell? ⟨q,u*10+6,none⟩=some (qV O.jA.a O.jA.n O.jA.k):=(CO.below ql b0).c6;have HA:=qC (h.below b0);have B0:=qC b0;have HE:=qC he;have HO:=qC hO;have ON:=qC (show O.new B w by rw[hO];exact h.st.on _ (qk hu));have OC:=qC (show O.jA.n<=O.jA.k/\O.jA.k<=maxLen by rw[hO];exact h.st.oc _ (qk hu));rw[hk]at k1;rw[hf]at y6;have e5:=(HE.out.below h14 (B0.out.mono hB) 13 qQ qQ).1;have sz:B<=(n1:qM).heap.size:=qj hB B0.out.size;clear h he hO CO b0 hk hf;go_enter func186,ntmps186
 go_wp2_with fail
 refine(De 6 314 (pT (some (E 13))) _).mono ?_;rintro e w9 ⟨rfl,rfl⟩;go_wp2;go_ret2;have b3:=Af B0.out (Bg _ (qG #[.int .i64 6,.iface 314 (pT (some (E 13)))] 145));exact⟨_,rfl,b3.mono hB,Cz _ E sz 6 qX 13 qX qX qX qZ,HA.out.below (Bg _ _)⟩
def XT(h:c.new B w)(hk:c.n<=c.k/\c.k<=maxLen)(ht:c.tight):FV w B (qV c.a c.n c.k) c.n c.f:=by
 refine⟨by simp[JY],?_⟩;by_cases h0:0<c.n
 ·obtain⟨b,m,F,e,h1,⟨h2,rfl⟩,cur,hc,hs,hF⟩:=h.2 h0;obtain⟨b',off,e',hlt,hcc⟩:=h.1.2.1 h0;rw[e]at e';cases e';refine .inr ⟨b,c.k,cur,by rw[e],h1,hc,hk.1,hk.2,by rw[hs,Nat.mul_one],?_⟩;refine List.ext_getElem? (fun i=>?_);rw[Nat.mul_one];by_cases hi:i<c.n
  ·have hv:=hcc i hi;simp only[World.cell?,hc]at hv;rw[jW?_take_of_lt hi];simp[JY,hi];simpa using hv
  ·rw[jW?_eq_none sO,jW?_eq_none (by simp[JY];omega)]
 ·obtain⟨e1,e2⟩:=ht qQ;have e3:c.n=0:=by omega
  exact .inl ⟨by rw[e1,e2,e3],e3⟩
def MF(h:c.new B w)(ht:c.tight):∀b,(Value.slice c.a c.n c.k).ownBlock=some b->b∈c.bs/\∃m F,w.rowIs b 9 m F:=fun b e=>by
 by_cases h0:0<c.n
 ·obtain⟨b',m,F,e',h1,_,hr⟩:=h.2 h0;rw[e']at e;simp only[Value.ownBlock,jV.injEq]at e;subst e;exact⟨by unfold AE.bs;rw[if_pos h0,e'];simp,m,F,hr⟩
 ·obtain⟨e1,e2⟩:=ht qQ;rw[e1]at e;cases e
def MG{ops:Array Oper}{o:Oper}{a:Act}{w:qM}{K:Act->qM->Prop}{Q:Exit->Act->qM->Prop}{E:Prop}(hgd:o.guard=none)(s x:Operand)
 (ho:o.op= .call {callee:= .builtin .append,args:=#[s,x],argTypes:=#[57,57]})
 (B:Nat)(v:Value)(n:Nat)(f:Nat->ByteArray)(hs:a.eval s=v)(hown:FV w B v n f)(ad:Option Addr)(c:Nat)(y:ByteArray)(hx:a.eval x= qV ad 1 c)(hc:Bl w ad 1 [sT y])
 (hm:n<=1048576)(hB:B<=w.heap.size)(d:Option Nat)(hd:o.dst=d)
 (h:∀a' c' w',FV w' B (qV a' (n+1) c') (n+1) (Dw n f y)->w.grownBy w' v.ownBlock->((Value.slice a' (n+1) c').ownBlock=v.ownBlock∨(Value.slice a' (n+1) c').ownBlock=some w.heap.size)->K (a.put d (qV a' (n+1) c')) w'):
 if jU o (yielded ops a.tmps)=true then Oper.wp prog o a w K Q else E:=by
 have hw:jU o (yielded ops a.tmps)=true:=by simp[jU,hgd]
 rw[if_pos hw];refine DO underlying57 Tryz.info9 rfl qQ w s x ho B v n (JY n f) hs hown ad 1 c [sT y] hx rfl hc (fun u hu=>by simp at hu;subst hu;rfl) qQ qQ hB fun a' c' w' h2 h3 h4=>?_;rw[<-Rl]at h2;rw[hd];exact h a' c' w' h2 h3 h4
def Sf(w:qM)(B P:Nat)(s:Aj)(g ca q co:Nat)(lt:List Ae)(lo:List Ab)(t:Nat)(m:Value)(h:Fg w B P s g ca q co lt lo t m)(hB:B<=w.heap.size)(u:Nat)(hu:u<lo.length)(O:Ab)(hO:O=lo[u])(hd:∀x∈lo,x.data.size<=maxLen)(hk:s.kind=9)(hf:O.jA.n≠8)(hl:O.jA.n<=1000)(ht:O.jA.tight)(hsd:s.data.size<=maxLen):
 Calls prog 186 #[pT P,.agg #[pT (some ⟨q,u*10,none⟩)]] w fun e w'=>∃(a:Option Addr) (cc:Nat),e= .returned (.tuple #[sT ⟨#[]⟩,.nilIface])/\Fg w' B P s g ca q co lt (lo.set u ⟨O.id,O.kind,O.up,O.b1,O.c1,O.data,⟨a,O.jA.n+1,cc,Dw O.jA.n O.jA.f s.data⟩,O.own,O.b2,O.c2⟩) t m/\qN B w w':=by
 obtain⟨CO,ql⟩:=h.st.jF hu hd;rw[<-hO]at CO;have n1:Nw (w.alloc (qG #[pT (some ⟨q,u*10,none⟩)] 252)):=⟨⟩;have b0:qN w.heap.size w n1:=Bg w _;have n5:Nv (pT (some ⟨q,u*10,none⟩)):=⟨⟩;have c0:(n1:qM).cell? ⟨w.heap.size,0,none⟩=some (pT (some ⟨q,u*10,none⟩)):=by go_simp
 obtain⟨⟨k0,k1,k2,k3,k4,k5,k6,k7,k8,k9⟩,k10,k11,k12,k13⟩:=(h.wk.below b0).jZ;have y6:(n1:qM).cell? ⟨q,u*10+6,none⟩=some (qV O.jA.a O.jA.n O.jA.k):=(CO.below ql b0).c6;have HA:=qC (h.below b0);have B0:=qC b0;have HO:=qC hO;have ON:=qC (show O.new B w by rw[hO];exact h.st.on _ (qk hu));have OC:=qC (show O.jA.n<=O.jA.k/\O.jA.k<=maxLen by rw[hO];exact h.st.oc _ (qk hu));rw[hk]at k1;have f1:¬(O.jA.n:Int)=8:=by omega
 have f2:((O.jA.n:Int)==8)=false:=by simpa using f1
 have n2:No (qG (IN s g lt.length ca q lo.length co t m) 175):=⟨⟩;have Z1:Hid ((fun W=>Ag W P n2/\W.cell? ⟨w.heap.size,0,none⟩=some (pT (some ⟨q,u*10,none⟩))/\W.cell? ⟨q,u*10+6,none⟩=some (qV O.jA.a O.jA.n O.jA.k)) (n1:qM).drew):=qC ⟨HA.out.wk,c0,y6⟩;have n4:No (qG #[sT s.data] 9):=⟨⟩;have BA:qN (n1:qM).heap.size n1 ((n1:qM).alloc n4).drew:=(Bg n1 _).drew;have ql1:q<(n1:qM).heap.size:=qv ql b0.size;have ZA:Hid ((fun W=>Ag W P n2/\W.cell? ⟨w.heap.size,0,none⟩=some (pT (some ⟨q,u*10,none⟩))/\W.cell? ⟨q,u*10+6,none⟩=some (qV O.jA.a O.jA.n O.jA.k)) ((n1:qM).alloc n4).drew):=qC ⟨HA.out.wk.below BA,(BA.cell (p:=⟨w.heap.size,0,none⟩) sI).trans c0,(BA.cell (p:=⟨q,u*10+6,none⟩) ql1).trans y6⟩;have SA:=qC (HA.out.below BA);have BB:=qC (Af B0.out BA);have NA:=qC (ON.out.2.1.below BB.out);have LA:Hid (Bl ((n1:qM).alloc n4).drew (some ⟨w.heap.size+1,0,none⟩) 1 [sT s.data]):=qC (by have h:=Jr n1 s.data;rw[show(n1:qM).heap.size=w.heap.size+1 from by simp]at h;exact h);have HT:=qC ht;clear h hO CO b0 hk hf;go_enter func186,ntmps186
 go_upto_region 4 with fail
 refine Am 18 (fun W=>Ag W P n2/\W.cell? ⟨w.heap.size,0,none⟩=some (pT (some ⟨q,u*10,none⟩))/\W.cell? ⟨q,u*10+6,none⟩=some (qV O.jA.a O.jA.n O.jA.k)) kR ?_;have n3:Nv (pT (w.heap.size)):=⟨⟩;refine tr 0 23 n3 Z1.out ?_;refine tr 1 24 n3 Z1.out ?_;refine tr 2 25 n5 Z1.out ?_ (hy:=fun W h=>by have y:=h.2.1;go_simp);refine tr 3 26 n3 Z1.out ?_;refine tr 4 27 n3 Z1.out ?_;refine tr 5 28 n5 Z1.out ?_ (hy:=fun W h=>by have y:=h.2.1;go_simp);refine tr 6 29 n5 Z1.out ?_;refine tr 7 30 (pT (some ⟨q,u*10+6,none⟩)) Z1.out ?_;refine tr 8 31 (qV O.jA.a O.jA.n O.jA.k) Z1.out ?_ (hy:=fun W h=>by have y:=h.2.2;go_simp);have n6:Nv (pT P):=⟨⟩;refine tr 9 32 n6 Z1.out ?_;refine tr 10 33 n6 Z1.out ?_;refine tr 11 34 n6 Z1.out ?_;refine tr 12 35 (pT (some ⟨P,5,none⟩)) Z1.out ?_;refine tr 13 36 (sT s.data) Z1.out ?_ (hy:=fun W h=>by obtain⟨⟨k0,k1,k2,k3,k4,k5,k6,k7,k8,k9⟩,k10,k11,k12,k13⟩:=h.1.jZ;go_simp);refine Ac (i:=14) kR rfl ?_;intro K hK;go_simp;refine hK.out _ _ (fun _=>ZA.out) ?_;clear hK K;try simp only[ap,qF]
 refine Ac (i:=15) kR rfl ?_;intro K hK;refine MG qK _ _ qK B _ O.jA.n O.jA.f qK (XT NA.out OC.out HT.out) (some ⟨w.heap.size+1,0,none⟩) 1 s.data qK LA.out qQ (qj hB BB.out.size) (some 38) qK ?_;intro a3 c3 w3 o3 g3 e3;have NL:=FV.newL o3 qQ (fun i hi=>by unfold Dw;split;exact NA.out.1.2.2 i (by assumption);exact hsd);obtain⟨S4,⟨cur,hcu⟩,hBq,wk3,rw3⟩:=SA.out.itemRow hu HO.out (MF NA.out HT.out) g3 (d:=⟨a3,O.jA.n+1,c3,Dw O.jA.n O.jA.f s.data⟩) NL.1 NL.2 (fun b hb=>by
  unfold AE.bs at hb;simp only[Nat.zero_lt_succ,if_true]at hb;rcases e3 with e|e
  ·refine .inl (MF NA.out HT.out b ?_).1;rw[<-e];cases a3 with
   |none=>cases hb
   |some p=>simp at hb;rw[hb];rfl
  ·refine .inr ?_;cases a3 with
   |none=>cases hb
   |some p=>simp at hb;subst hb;simp only[Value.ownBlock,jV.injEq]at e;rw[e];exact Nat.le_refl _)
 have n7:Nw ((w.alloc (qG #[pT (some ⟨q,u*10,none⟩)] 252)).alloc n4):=⟨⟩;have gq:∀P',P'<(n7:qM).drew.heap.size->P'≠P'∨((Value.slice O.jA.a O.jA.n O.jA.k).ownBlock≠some P')->w3.heap[P']? =(n7:qM).drew.heap[P']?:=fun P' h1 h2=>g3.block P' h1 (fun e=>by rcases h2 with h2|h2;exact h2 rfl;exact h2 e.symm);have c6:w3.cell? ⟨q,u*10+6,none⟩=some (qV O.jA.a O.jA.n O.jA.k):=(World.cell?_of_block (a:=⟨q,u*10+6,none⟩) (gq q (qv ql1 BA.size) (.inr fun e=>(rw3 q e).2.1 rfl))).trans ZA.out.2.2;have hH:w.heap.size<B∨B<=w.heap.size:=by omega
 have cH:w3.cell? ⟨w.heap.size,0,none⟩=some (pT (some ⟨q,u*10,none⟩)):=(World.cell?_of_block (a:=⟨w.heap.size,0,none⟩) (gq w.heap.size (qv sI BA.size) (.inr fun e=>by
  have:=(ON.out.2.1.bs.2 _ (MF NA.out HT.out _ e).1).2;omega))).trans ZA.out.2.1
 have Z3:Hid ((fun W=>Ag W P n2/\W.cell? ⟨w.heap.size,0,none⟩=some (pT (some ⟨q,u*10,none⟩))/\W.cell? ⟨q,u*10+6,none⟩=some (qV O.jA.a O.jA.n O.jA.k)) w3):=qC ⟨wk3,cH,c6⟩;have S4':=qC S4;have gf:=hcu.jC;have B3:Hid (qN B w w3):=qC ((BB.out.mono hB).trans (below_grown g3 (qj hB BB.out.size) (fun j e=>(rw3 j e).1)));have KK:=hK;refine KK.out _ _ (fun _=>Z3.out) ?_;clear hK KK K S4 NL o3 g3 e3 wk3 rw3 gq cH hH;simp only[ap,qF];refine Ac (i:=16) kR rfl ?_;intro K hK;go_simp;refine hK.out _ _ (fun _=>Z3.out) ?_;clear hK K;try simp only[ap,qF]
 refine Ac (i:=17) kR rfl ?_;intro K hK;go_simp;refine hK.out _ _ (fun _=>Z3.out) ?_;clear hK K;try simp only[ap,qF]
 refine Ac (i:=18) kR rfl ?_;intro K hK;go_simp;refine hK.out _ _ nA ?_;clear hK K;try simp only[Act.put]
 refine Ai kR ?_ _;have B4:=qC (B3.out.setCell (p:=⟨q,u*10+6,none⟩) hBq (qV a3 (O.jA.n+1) c3));go_wp2;go_ret2;exact⟨rfl,⟨a3,c3,S4'.out⟩,B4.out⟩
def Fg.takeF{wr:qM}{P:Nat}{s:Aj}{g ca q co:Nat}{lt:List Ae}{lo:List Ab}{t:Nat}{m:Value}(h:Fg wr B P s g ca q co lt lo t m){u b:Nat}(hu:u<lo.length){O:Ab}(hO:O=lo[u])(hn:O.jA.n≠0)(hb:O.jA.a=some ⟨b,0,none⟩){o kk:Nat}(hok:O.jA.n=1∨o=1):
 Pk (wr.setCell ⟨q,u*10+6,none⟩ (qV (some ⟨b,o,none⟩) (O.jA.n-1) kk)) B P s g ca q co lt (lo.set u ⟨O.id,O.kind,O.up,O.b1,O.c1,O.data,⟨some ⟨b,o,none⟩,O.jA.n-1,kk,fun i=>O.jA.f (i+1)⟩,O.own,O.b2,O.c2⟩) t m/\B<=q/\∃cur,Ag wr q (qG cur 59):=by
 have ho:=h.st.o;obtain⟨cur,hcur⟩:∃cur,Ag wr q (qG cur 59):=by
  rcases ho.2 with⟨hv,_⟩|⟨g',cap,cur,hv,_,hgg,_⟩
  ·cases hv
  ·cases hv;exact⟨cur,hgg⟩
 have hBg:B<=q:=(qq.lt ho q rfl).1;have el:(lo.set u (⟨O.id,O.kind,O.up,O.b1,O.c1,O.data,⟨some ⟨b,o,none⟩,O.jA.n-1,kk,fun i=>O.jA.f (i+1)⟩,O.own,O.b2,O.c2⟩:Ab)).length=lo.length:=by simp
 have n1:Nv (qV (some ⟨b,o,none⟩) (O.jA.n-1) kk):=⟨⟩;have kl:=Aq (i:=u*10+6) hcur qX n1;have ho':=(qq.stored ho (u*10+6) n1).1;have hx:=h.st.on _ (qk hu);rw[<-hO]at hx;obtain⟨b',m',F,e',hB',hm',hr⟩:=hx.2.1.2 qQ;rw[hb]at e';cases e';obtain⟨b'',off,e'',hlt,hcc⟩:=hx.2.1.1.2.1 qQ;rw[hb]at e'';cases e'';have tn:(⟨some ⟨b,o,none⟩,O.jA.n-1,kk,fun i=>O.jA.f (i+1)⟩:AE).jH B wr:=by
  refine⟨⟨by have:=hx.2.1.1.1;show O.jA.n-1<=maxLen;omega,fun h0=>⟨b,o,rfl,hlt,fun i hi=>?_⟩,fun i hi=>hx.2.1.1.2.2 (i+1) (by simp only at hi;omega)⟩,fun h0=>⟨b,o,m',F,rfl,hB',by simp only at h0 ⊢;omega,hr⟩⟩;have hi':i+1<O.jA.n:=by simp only at hi;omega
  have eo:o=1:=by omega
  subst eo;have:=hcc (i+1) hi';rw[show 1+i=0+(i+1) from by omega];exact this
 have bse:O.jA.bs=[b]:=by unfold AE.bs;rw[if_pos qQ,hb]
 have tb:∀x∈(⟨some ⟨b,o,none⟩,O.jA.n-1,kk,fun i=>O.jA.f (i+1)⟩:AE).bs,x∈O.jA.bs:=fun x hx'=>by
  rw[bse];unfold AE.bs at hx';split at hx'
  ·exact hx'
  ·cases hx'
 have td:(⟨some ⟨b,o,none⟩,O.jA.n-1,kk,fun i=>O.jA.f (i+1)⟩:AE).bs.Nodup:=by
  unfold AE.bs;split
  ·simp
  ·simp
 have hn':O.cb.Nodup:=Dr (L:=lo.map Ab.cb) (S:=(lt.map Ae.cb).flatten) (t:=u) (by simp[hu,hO]) (jz.nodup_iff.2 h.ap.c);have hi:O.own.bs.Nodup:=Dr (L:=lo.map fun x=>x.own.bs) (S:=(lt.map fun x=>x.own.bs).flatten) (t:=u) (by simp[hu,hO]) (jz.nodup_iff.2 h.ap.i);have nq:∀x∈lo,∀b∈x.jA.bs,b≠q:=fun x hx2 b2 hb2 e=>by
  have hxx:=(h.st.on x hx2).2.1;unfold AE.bs at hb2;split at hb2
  ·rename_i h0;obtain⟨b3,m3,F3,e3,_,_,c3,hc3,_⟩:=hxx.2 h0;rw[e3]at hb2;have:=List.mem_singleton.1 hb2;simp only at this;subst this;have hq:=hcur;unfold Ag at hq;rw[<-e,hc3]at hq;simp at hq
  ·cases hb2
 have strF:∀{c:AE},c.jH B wr->(∀b∈c.bs,b≠q)->c.jH B (wr.setCell ⟨q,u*10+6,none⟩ (qV (some ⟨b,o,none⟩) (O.jA.n-1) kk)):=fun{c} hc hne=>hc.of (by simp[World.setCell]) (fun b2 hb2=>Below.heap_setCell _ _ _ _ (fun(e:b2=q)=>hne b2 hb2 e));refine⟨⟨⟨h.st.t.set hcur qX _,?_,fun y hy=>(h.st.tn y hy).keeps kl,fun y hy=>?_⟩,h.ap.setO h.st hu (x:=⟨O.id,O.kind,O.up,O.b1,O.c1,O.data,⟨some ⟨b,o,none⟩,O.jA.n-1,kk,fun i=>O.jA.f (i+1)⟩,O.own,O.b2,O.c2⟩) hn' (fun b hb=> .inl (by rw[<-hO];exact hb)) hi (fun b hb=> .inl (by rw[<-hO];exact hb)) td (fun b hb=> .inl (by rw[<-hO];exact tb b hb)),by rw[el];exact h.wk.other (Ne.symm h.setQ) _⟩,hBg,cur,hcur⟩
 ·unfold AW;have e:=Dl (f:=Ab.cs) Ab.jK (l:=lo) (t:=u) (x:=(⟨O.id,O.kind,O.up,O.b1,O.c1,O.data,⟨some ⟨b,o,none⟩,O.jA.n-1,kk,fun i=>O.jA.f (i+1)⟩,O.own,O.b2,O.c2⟩:Ab)) (u:= qV (some ⟨b,o,none⟩) (O.jA.n-1) kk) (i:=6) hu qQ (by rw[<-hO];rfl);rw[el];unfold Ax;rw[<-e];exact ho'
 ·obtain⟨j,hj,rfl⟩:=List.getElem_of_mem hy;rw[List.getElem_set];split
  ·exact⟨hx.1.keeps kl,strF tn (fun b2 hb2=>nq O (by rw[hO];exact qk hu) b2 (tb b2 hb2)),hx.2.2.1.keeps kl,hx.2.2.2.keeps kl⟩
  ·have hj':j<lo.length:=(by simpa using hj);have hy':=h.st.on _ (qk hj');exact⟨hy'.1.keeps kl,strF hy'.2.1.f (nq _ (qk hj')),hy'.2.2.1.keeps kl,hy'.2.2.2.keeps kl⟩
def Qp(w:qM)(B P:Nat)(s:Aj)(g ca q co:Nat)(lt:List Ae)(lo:List Ab)(t:Nat)(m:Value)(h:Fg w B P s g ca q co lt lo t m)(hB:B<=w.heap.size)(u:Nat)(hu:u<lo.length)(O:Ab)(hO:O=lo[u])(hd:∀x∈lo,x.data.size<=maxLen)(hk:s.kind=10)(hf:O.jA.n≠0)(hl:O.jA.n<=1000):
 Calls prog 186 #[pT P,.agg #[pT (some ⟨q,u*10,none⟩)]] w fun e w'=>e= .returned (.tuple #[sT (O.jA.f 0),.nilIface])/\(∃(a:Option Addr) (kk:Nat),Pk w' B P s g ca q co lt (lo.set u ⟨O.id,O.kind,O.up,O.b1,O.c1,O.data,⟨a,O.jA.n-1,kk,fun i=>O.jA.f (i+1)⟩,O.own,O.b2,O.c2⟩) t m)/\qN B w w':=by
 obtain⟨CO,ql⟩:=h.st.jF hu hd;rw[<-hO]at CO;have n7:Nw (w.alloc (qG #[pT (some ⟨q,u*10,none⟩)] 252)):=⟨⟩;have b0:qN w.heap.size w n7:=Bg w _;have c0:(n7:qM).cell? ⟨w.heap.size,0,none⟩=some (pT (some ⟨q,u*10,none⟩)):=by go_simp
 obtain⟨⟨k0,k1,k2,k3,k4,k5,k6,k7,k8,k9⟩,k10,k11,k12,k13⟩:=(h.wk.below b0).jZ;have y6:(n7:qM).cell? ⟨q,u*10+6,none⟩=some (qV O.jA.a O.jA.n O.jA.k):=(CO.below ql b0).c6;have HA:=qC (h.below b0);have B0:=qC b0;have HO:=qC hO;have ON:=qC (show O.new B w by rw[hO];exact h.st.on _ (qk hu));have OC:=qC (show O.jA.n<=O.jA.k/\O.jA.k<=maxLen by rw[hO];exact h.st.oc _ (qk hu));rw[hk]at k1;have f1:¬(O.jA.n:Int)=0:=by omega
 have f2:((O.jA.n:Int)==0)=false:=by simpa using f1
 obtain⟨b,mm,F,ea,hb1,hb2,hr⟩:=ON.out.2.1.2 qQ;obtain⟨b',off,ea',hlt,hcc⟩:=ON.out.2.1.1.2.1 qQ;rw[ea]at ea';cases ea';have i0:(n7:qM).cell? ⟨b,0,none⟩=some (sT (O.jA.f 0)):=(b0.cell (p:=⟨b,0,none⟩) hlt).trans (hcc 0 qQ);rw[ea]at y6;have z0:(n7:qM).drew.cell? ⟨w.heap.size,0,none⟩=some (pT (some ⟨q,u*10,none⟩)):=c0;have z6:(n7:qM).drew.cell? ⟨q,u*10+6,none⟩=some (qV b O.jA.n O.jA.k):=y6;have HD:=qC (HA.out.below (Below.refl _ _).drew);have n1:1<=O.jA.n:=by omega
 have n2:(1:Int)<=(O.jA.n:Int):=by omega
 have n3:1<=O.jA.k:=qj n1 OC.out.1;have n4:(0:Int)<(O.jA.n:Int):=by omega
 have n5:0<O.jA.n:=by omega
 have n6:O.jA.n<=O.jA.k:=OC.out.1;by_cases hk1:O.jA.k=1
 ·obtain⟨S1,hg,cur,hcu⟩:=HD.out.takeF hu HO.out hf ea (o:=0) (kk:=0) (.inl qQ);have S1':=qC S1;have gf:=hcu.jC;have B1:=qC (((B0.out.drew).mono hB).setCell (p:=⟨q,u*10+6,none⟩) hg (qV b (O.jA.n-1) 0));rw[hk1]at y6 z6;clear h hO CO b0 hk hf S1 hcc;go_enter func186,ntmps186
  go_upto_region 9 with fail
  generalize (n7:qM)=V at *;go_region_law fail
  all_goals(
   go_wp2;go_ret2;exact⟨rfl,⟨_,_,S1'.out⟩,B1.out⟩)
 ·obtain⟨S1,hg,cur,hcu⟩:=HD.out.takeF hu HO.out hf ea (o:=1) (kk:=O.jA.k-1) (.inr rfl);have S1':=qC S1;have gf:=hcu.jC;have B1:=qC (((B0.out.drew).mono hB).setCell (p:=⟨q,u*10+6,none⟩) hg (qV (some ⟨b,1,none⟩) (O.jA.n-1) (O.jA.k-1)));clear h hO CO b0 hk hf S1 hcc;go_enter func186,ntmps186
  go_upto_region 9 with fail
  generalize (n7:qM)=V at *;go_region_law fail
  all_goals(
   go_wp2;go_ret2;exact⟨rfl,⟨_,_,S1'.out⟩,B1.out⟩)
def Tryz.joinA_ren:Go.Shelf.Ren:=⟨fun|156=>203|165=>218|166=>219|169=>220|240=>232|241=>233|276=>242|277=>243|n=>n,fun|31=>57|9=>9|3=>3|4=>4|0=>0|20=>20|72=>288|76=>289|70=>286|37=>22|75=>137|127=>303|164=>117|5=>5|80=>107|n=>n,fun|n=>n⟩
def Tryz.joinA:Go.Proofs.Lays.n156 prog Tryz.joinA_ren:={
 mixed:=by kernel_rfl
 f156:=func203.trans (congrArg some (by kernel_rfl))
 f165:=func218.trans (congrArg some (by kernel_rfl))
 f166:=func219.trans (congrArg some (by kernel_rfl))
 f169:=func220.trans (congrArg some (by kernel_rfl))
 f240:=func232.trans (congrArg some (by kernel_rfl))
 f241:=func233.trans (congrArg some (by kernel_rfl))
 f276:=func242.trans (congrArg some (by kernel_rfl))
 f277:=func243.trans (congrArg some (by kernel_rfl))
 t0:=underlying0
 a0:=isAgg0
 z0:=sizeOf0
 v0:=zeroValue0
 t3:=underlying3
 a3:=isAgg3
 z3:=sizeOf3
 v3:=zeroValue3
 t4:=underlying4
 a4:=isAgg4
 z4:=sizeOf4
 v4:=zeroValue4
 t9:=underlying9
 a9:=isAgg9
 z9:=sizeOf9
 v9:=zeroValue9
 t20:=underlying20
 a20:=isAgg20
 z20:=sizeOf20
 v20:=zeroValue20
 t31:=underlying57
 a31:=isAgg57
 z31:=sizeOf57
 v31:=zeroValue57
 t37:=underlying22
 a37:=isAgg22
 z37:=sizeOf22
 v37:=zeroValue22
 t70:=underlying286
 a70:=isAgg286
 z70:=sizeOf286
 v70:=zeroValue286
 t72:=underlying288
 a72:=isAgg288
 z72:=sizeOf288
 v72:=zeroValue288
 t75:=underlying137
 a75:=isAgg137
 z75:=sizeOf137
 v75:=zeroValue137
 t76:=underlying289
 a76:=isAgg289
 z76:=sizeOf289
 v76:=zeroValue289
 t127:=underlying303
 a127:=isAgg303
 z127:=sizeOf303
 v127:=zeroValue303
 t164:=underlying117
 a164:=isAgg117
 z164:=sizeOf117
 v164:=zeroValue117}
def Tryz.fmtA_ren:Go.Shelf.Ren:=⟨fun|173=>197|246=>208|283=>225|284=>226|285=>227|286=>228|129=>161|317=>237|318=>238|319=>239|320=>240|337=>245|338=>246|n=>n,fun|2=>2|3=>3|9=>9|4=>4|171=>297|0=>0|53=>77|37=>22|5=>5|173=>299|212=>306|51=>80|20=>20|213=>307|46=>123|232=>312|233=>313|n=>n,fun|17=>14|18=>16|19=>17|n=>n⟩
def Tryz.fmtA:Go.Proofs.LaysM.n173 prog Tryz.fmtA_ren:={
 mixed:=by kernel_rfl
 f129:=func161.trans (congrArg some (by kernel_rfl))
 f173:=func197.trans (congrArg some (by kernel_rfl))
 f246:=func208.trans (congrArg some (by kernel_rfl))
 f283:=func225.trans (congrArg some (by kernel_rfl))
 f284:=func226.trans (congrArg some (by kernel_rfl))
 f285:=func227.trans (congrArg some (by kernel_rfl))
 f286:=func228.trans (congrArg some (by kernel_rfl))
 f317:=func237.trans (congrArg some (by kernel_rfl))
 f318:=func238.trans (congrArg some (by kernel_rfl))
 f319:=func239.trans (congrArg some (by kernel_rfl))
 f320:=func240.trans (congrArg some (by kernel_rfl))
 f337:=func245.trans (congrArg some (by kernel_rfl))
 f338:=func246.trans (congrArg some (by kernel_rfl))
 t0:=underlying0
 a0:=isAgg0
 z0:=sizeOf0
 v0:=zeroValue0
 t2:=underlying2
 a2:=isAgg2
 z2:=sizeOf2
 v2:=zeroValue2
 t3:=underlying3
 a3:=isAgg3
 z3:=sizeOf3
 v3:=zeroValue3
 t4:=underlying4
 a4:=isAgg4
 z4:=sizeOf4
 v4:=zeroValue4
 t5:=underlying5
 a5:=isAgg5
 z5:=sizeOf5
 v5:=zeroValue5
 t9:=underlying9
 a9:=isAgg9
 z9:=sizeOf9
 v9:=zeroValue9
 t20:=underlying20
 a20:=isAgg20
 z20:=sizeOf20
 v20:=zeroValue20
 t37:=underlying22
 a37:=isAgg22
 z37:=sizeOf22
 v37:=zeroValue22
 t46:=underlying123
 a46:=isAgg123
 z46:=sizeOf123
 v46:=zeroValue123
 t51:=underlying80
 a51:=isAgg80
 z51:=sizeOf80
 v51:=zeroValue80
 t53:=underlying77
 a53:=isAgg77
 z53:=sizeOf77
 v53:=zeroValue77
 t171:=underlying297
 a171:=isAgg297
 z171:=sizeOf297
 v171:=zeroValue297
 t173:=underlying299
 a173:=isAgg299
 z173:=sizeOf299
 v173:=zeroValue299
 t212:=underlying306
 a212:=isAgg306
 z212:=sizeOf306
 v212:=zeroValue306
 t213:=underlying307
 a213:=isAgg307
 z213:=sizeOf307
 t232:=underlying312
 a232:=isAgg312
 z232:=sizeOf312
 v232:=zeroValue312
 t233:=underlying313
 a233:=isAgg313
 z233:=sizeOf313
 v233:=zeroValue313
 g17:=by kernel_rfl
 g18:=by kernel_rfl
 g19:=by kernel_rfl
 i0:=by kernel_rfl
 i2:=by kernel_rfl
 i3:=by kernel_rfl
 i4:=by kernel_rfl
 i5:=by kernel_rfl
 i9:=by kernel_rfl
 i20:=by kernel_rfl
 i37:=by kernel_rfl
 i46:=by kernel_rfl
 i51:=by kernel_rfl
 i53:=by kernel_rfl
 i171:=by kernel_rfl
 i173:=by kernel_rfl
 i212:=by kernel_rfl
 i232:=by kernel_rfl
 i233:=by kernel_rfl
 m17:=by kernel_rfl
 m18:=by kernel_rfl
 m19:=by kernel_rfl}
def Tryz.Builder_Extra_156:Builder.Extra prog Tryz.joinA_ren:={
 sizeBuilder:=by kernel_rfl
 liesBuilder:=by kernel_rfl
 t5:=underlying5
 a5:=isAgg5
 z5:=sizeOf5
 v5:=zeroValue5
 infoByte:=by kernel_rfl
 cellsByte:=by kernel_rfl
 sizeByte:=by kernel_rfl
 neB5:=by decide}
open Go.RowKit Go.Sort Go.Lib in
def Tryz.strconv_FormatInt_10(n:Int)(h0: -9223372036854775808<=n)(h1:n<=9223372036854775807)(w:World)(htab:Lib.TabIs prog w "internal/strconv.uint64pow10" .u64 Lib.pow10Tab):
 Calls prog 197 #[.int .i64 n,.int .i64 10] w fun e w'=>e= .returned (.string ⟨(Lib.itoa n).toArray⟩)/\∃k os,w'=grow (w.drewN k) os:=Any.strconv_FormatInt_10 Tryz.fmtA n h0 h1 w htab
open Go.RowKit in
def Tryz.strings_Join(bk o c:Nat)(xs:List ByteArray)(sep:ByteArray)(w:World)
 (hcells:∀(j:Nat) x,xs[j]? =some x->w.cell? ⟨bk,o+j,none⟩=some (.string x))
 (hbk:bk<w.heap.size)(hN:xs.length<=140737488355328)(hcap:xs.length<=c)
 (hlen:(Lib.join (xs.map (·.data.toList)) sep.data.toList).length<=140737488355328):
 Calls prog 203 #[.slice (some ⟨bk,o,none⟩) xs.length c,.string sep] w fun e w'=>e= .returned (.string ⟨(Lib.join (xs.map (·.data.toList)) sep.data.toList).toArray⟩)/\Below w.heap.size w w':=Any.strings_Join Tryz.joinA Tryz.Builder_Extra_156 bk o c xs sep w hcells hbk hN hcap hlen
def aC(n:Nat):Lib.decDigits n=Dd n:=by
 induction n using Nat.strongRecOn with
 |_ n ih=>
  by_cases h:n<10
  ·rw[Hy h,Lib.decDigits,dif_pos h]
  ·rw[Lx h,Lib.decDigits,dif_neg h,ih (n/10) qQ]
def Td(w:World):Prop:=Lib.TabIs prog w "internal/strconv.uint64pow10" .u64 Lib.pow10Tab
def Tryz.tabSome:(prog.globalNamed "internal/strconv.uint64pow10").isSome=true:=by kernel_rfl
def Tryz.tabNamed:∃g,prog.globalNamed "internal/strconv.uint64pow10" =some g:=Option.isSome_iff_exists.1 Tryz.tabSome
def Td.below{w w':World}(h:Td w)(hb:Below w w w'):Td w':=by
 obtain⟨g,hg⟩:=Tryz.tabNamed;unfold Td Lib.TabIs at *;refine var?_below hb hg ?_ h;rcases Nat.lt_or_ge g w with h'|h'
 ·exact h'
 ·exfalso;simp[World.var?,hg,Array.getElem?_eq_none h']at h
def J0(x:Int)(w:World)(h0:0<=x)(h1:x<=10000000000)(ht:Td w):
 Calls prog 168 #[.int .i64 x] w fun e w'=>e= .returned (.string ⟨(Dd x.toNat).toArray⟩)/\Below w w w':=by
 go_enter func168,ntmps168
 go_wp2_with fail
 refine(Tryz.strconv_FormatInt_10 x qQ qQ w ht).mono ?_;rintro e w' ⟨rfl,k,os,rfl⟩;have e1:Lib.itoa x=Dd x.toNat:=by
  unfold Lib.itoa;rw[if_neg qQ,aC]
 have hb:Below w w (Sort.grow (w.drewN k) os):=Lib.below_grow _ w nr k os;rw[e1];generalize Sort.grow (w.drewN k) os=W at *;go_wp2;go_ret;exact⟨rfl,hb⟩
open _root_.Nat renaming zero_le→qy,le_refl→jP
open _root_.List renaming length_append→jG,length_take→xP,length_map→kJ,take_add_one→zJ
def AI.one(w:World)(B:Nat)(hb:B<=w.heap.size)(x:Int):AI (w.alloc (qG #[.int .i64 x] 2)) B (qV (w) 1 1) [x]:=
 ⟨rfl,.inr ⟨w,1,#[.int .i64 x],rfl,hb,blk_alloc_new _ _,jP _,by unfold maxLen;omega,rfl,rfl⟩⟩
def AI.some_{w:World}{B n c:Nat}{a:Option Addr}{l:List Int}(h:AI w B (qV a n c) l)(hl:0<l.length):∃g,a=some ⟨g,0,none⟩/\l.length<=c/\c<=maxLen:=by
 rcases h.2 with⟨hv,hn⟩|⟨g,cap,cur,hv,_,_,h1,h2,_⟩
 ·omega
 ·simp only[Value.slice.injEq]at hv;obtain⟨rfl,_,rfl⟩:=hv;exact⟨g,rfl,h1,h2⟩
def Ub(k:Av)(u:Nat)(w:World)(hk:k.at w)(ho:Cr k.on k.O=true)(hu:u<k.on)(hc:Ii (fun i=>(k.O i).id) (fun i=>(k.O i).up) k.on u):
 Calls prog 97 #[k.val,.int .i64 (k.O u).id] w fun e w'=>∃v,e= .returned v/\AI w' w v (CM ((Gk (fun i=>(k.O i).id) (fun i=>(k.O i).up) k.on k.on u).map (fun i=>(k.O i).id)))/\qN w w w':=by
 obtain⟨on1,on2,_,_⟩:=Cv ho;have hr:=Ch ho;have h0:∀j,j<k.on->(fun i=>(k.O i).id) j≠(fun i=>(k.O i).up) 0:=fun j hj=>by have:=Et ho j hj;have:=(Cy ho).2.2;dsimp only;omega
 have n1:No (qG #[qV k.ta k.tn k.tk,qV k.oa k.on k.ok] 27):=⟨⟩;have hb0:qN w w (w.alloc n1):=Bg w _;have A0:=Ag.new w n1;have n3:No (qG #[.int .i64 (k.O u).id] 2):=⟨⟩;have bm:=hb0.alloc hb0.size n3;have A1:=A0.alloc n3;have O1:=AI.one (w.alloc n1) (w.heap.size+1) sI (k.O u).id;have HT:=qC hk;have HR:=qC hr;have H0:=qC h0;have HC:=qC hc;have BS:Hid (Xc (fun i=>(k.O i).id) (fun i=>(k.O i).up) k.on u 0 [u]):=qC (Xc.start hu);unfold Av.val;clear hk ho hr h0 hc;go_enter func97,ntmps97
 go_wp2;generalize hW:((w.alloc n1).alloc n3)=W at *;have O2:AI W (w.heap.size+1) (qV (some ⟨w.heap.size+1,0,none⟩) 1 1) ([u].map (fun i=>(k.O i).id)):=by simpa using O1
 clear hW hb0 A0 O1;go_loopw [5,6] (fun v i wr=>∃(t:Nat) (Q:List Nat),t<=Q.length/\Q.length<=271/\i= .int .i64 t/\Hid (Xc (fun i=>(k.O i).id) (fun i=>(k.O i).up) k.on u t Q)/\Hid (AI wr (w.heap.size+1) v (Q.map (fun i=>(k.O i).id)))/\Ag wr w n1/\qN w w wr) (fun _ i _=>271-(intOf i).toNat)
 case atStart=>exact⟨0,[u],qy _,by simp,rfl,BS,qC O2,A1,bm⟩
 case round=>
  clear O2 A1 bm BS;obtain⟨t,Q,ht,hq,rfl,HB,HO,A,hB⟩:=hrel;obtain⟨sa,sc,es⟩:=CG HO.out;subst es;have ql:(Q.map (fun i=>(k.O i).id)).length=Q.length:=by simp
  have QL:=qC ql;rw[ql]at HO;rw[ql];clear ql;by_cases hlt:t<Q.length
  ·obtain⟨a,ea⟩:∃a,Q[t]? =some a:=⟨Q[t],by simp[hlt]⟩;have HA:=qC ea;have hl0:0<(Q.map (fun i=>(k.O i).id)).length:=(by rw[QL.out];omega);have lies:=AI.lies (a:=sa) (c:=sc) (l:=Q.map (fun i=>(k.O i).id)) (by rw[QL.out];exact HO.out);obtain⟨sb,so,rfl,slt,scc⟩:=lies hl0;have g1:wr.cell? ⟨sb,so+t,none⟩=some (.int .i64 (k.O a).id):=scc t _ (by simp[ea]);have i0:(0:Int)<=(t:Int):=qQ;have i1:(t:Int)<(Q.length:Int):=qQ;obtain⟨x0,x1⟩:=A.two;have CK:=qC (Ox k (k.O a).id wr.drew (HT.out.below hB.drew) on2);rw[ah,IZ]at CK;unfold Av.val at CK;have n4:No (qG #[qV k.ta k.tn k.tk,qV k.oa k.on k.ok] 27):=⟨⟩;have Ad:Ag wr.drew w n4:=A;have kl:(DU (fun i=>(k.O i).id) (fun i=>(k.O i).up) k.on a).length<=271:=by
    have:=Li (fun i=>(k.O i).id) (fun i=>(k.O i).up) k.on a;rw[IZ,kJ]at this;omega
   clear ea lies scc hl0;go_wp2_with fail
   go_region_held3(fun w'=>w'.cell? ⟨w,0,none⟩=some (qV k.ta k.tn k.tk)/\w'.cell? ⟨w,1,none⟩=some (qV k.oa k.on k.ok)/\w'.cell? ⟨sb,so+t,none⟩=some (.int .i64 (k.O a).id)) (first|go_keep|(simp only[*,and_self]))
    (first
      |(go_at_call 100;refine CK.out.mono ?_;rintro e w2 ⟨kv,rfl,o2,hb2⟩;have K2:=qC o2;clear o2;obtain⟨p0,p1⟩:=(Ad.below hb2).two;have p2:=(hb2.cell (p:=⟨sb,so+t,none⟩) slt).trans g1))
   have B2:qN w w w2:=Af hB.drew hb2;have hs1:w.heap.size+1<=wr.drew.heap.size:=A.lt;have A2:=Ad.below hb2;have S2:=qC (AI.below (w:=wr.drew) HO.out hb2);have KA:Hid (∀g,kv.ownBlock=some g->some g≠some sb):=qC (fun g hg e=>by
    have h1:=(qq.lt K2.out g hg).1;have h2:wr.drew.heap.size=wr.heap.size:=rfl;have h3:=jV.inj e;omega)
   obtain⟨ka,kc,ek⟩:=CG K2.out;subst ek;have NX:Hid (Xc (fun i=>(k.O i).id) (fun i=>(k.O i).up) k.on u (t+1) (Q++DU (fun i=>(k.O i).id) (fun i=>(k.O i).up) k.on a)):=qC (HB.out.step HR.out H0.out HC.out HA.out);have ml:((DU (fun i=>(k.O i).id) (fun i=>(k.O i).up) k.on a).map (fun i=>(k.O i).id)).length<=271:=(by rw[kJ];exact kl);have EQ:Hid ((Q.map (fun i=>(k.O i).id))++((DU (fun i=>(k.O i).id) (fun i=>(k.O i).up) k.on a).map (fun i=>(k.O i).id))=(Q++DU (fun i=>(k.O i).id) (fun i=>(k.O i).up) k.on a).map (fun i=>(k.O i).id)):=qC (by rw[List.map_append]);have LQ:Hid ((Q++DU (fun i=>(k.O i).id) (fun i=>(k.O i).up) k.on a).length<=271):=qC (Nat.le_trans NX.out.len on2);generalize hKd:(DU (fun i=>(k.O i).id) (fun i=>(k.O i).up) k.on a).map (fun i=>(k.O i).id)=Kd at *;clear hKd kl;have QL2:Hid ((Q.map (fun i=>(k.O i).id)).length=Q.length):=QL;have V0:Hid (AI w2 (w.heap.size+1) (qV (some ⟨sb,so,none⟩) Q.length sc) (Q.map (fun i=>(k.O i).id))):=S2;generalize hSd:Q.map (fun i=>(k.O i).id)=Sd at *;have SL:Sd.length<=271:=(by rw[QL2.out];exact hq);clear hSd p0 p1 p2 g1 x0 x1 CK Ad A hB HO hb2 S2 HB;go_wp2;go_loopw [5,8] (fun v i wr=>∃j:Nat,j<=Kd.length/\i= .int .i64 j/\Hid (AI wr (w.heap.size+1) v (Sd++Kd.take j))/\Hid (AI wr (w.heap.size+1) (qV ka Kd.length kc) Kd)/\Hid (∀g,(Value.slice ka Kd.length kc).ownBlock=some g->some g≠v.ownBlock)/\Ag wr w n4/\qN w w wr) (fun _ i _=>Kd.length-(intOf i).toNat)
   case atStart=>exact⟨0,qy _,rfl,qC (by rw[List.take_zero,List.append_nil];exact V0.out),qC (K2.out.low hs1),KA,A2,B2⟩
   case round=>
    clear K2 KA A2 B2 V0;obtain⟨j,hj,rfl,HS,HKd,HAP,A,hB⟩:=hrel;by_cases hlt2:j<Kd.length
    ·obtain⟨y,ey⟩:∃y,Kd[j]? =some y:=⟨Kd[j],by simp[hlt2]⟩;obtain⟨kb,ko,rfl,_,kcc⟩:=AI.lies HKd.out qQ;have g1:wr.cell? ⟨kb,ko+j,none⟩=some (.int .i64 y):=kcc j _ (by simp[ey]);have i2:(j:Int)<(Kd.length:Int):=qQ;have L1:=qC (Ec.one (w:=wr) y);have n2:No (qG #[.int .i64 y] 2):=⟨⟩;have OA:=qC (AI.alloc HS.out n2);have KA2:=qC (AI.alloc HKd.out n2);have AA:=A.alloc n2;have B1:qN w w (wr.alloc n2):=hB.alloc hB.size _;have s1:w.heap.size+1<=(wr.alloc n2).heap.size:=(by have:=A.lt;simp;omega);have lm:(Sd++Kd.take j).length+1<=4194304:=(by rw[jG,xP];omega);have ET:Hid (Sd++Kd.take j++[y]=Sd++Kd.take (j+1)):=qC (by rw[zJ,ey,List.append_assoc];rfl);have LE:Hid ((Sd++Kd.take (j+1)).length=Sd.length+(j+1)):=qC (by rw[jG,xP];omega);have FIN:Hid (∀(w3:World) (v3:Value),(wr.alloc n2).grownBy w3 u5.ownBlock->(v3.ownBlock=u5.ownBlock∨v3.ownBlock=some (wr.alloc n2).heap.size)->Ag w3 w (qG #[qV k.ta k.tn k.tk,qV k.oa k.on k.ok] 27)/\qN w w w3/\AI w3 (w.heap.size+1) (qV (some ⟨kb,ko,none⟩) Kd.length kc) Kd/\∀g,(Value.slice (some ⟨kb,ko,none⟩) Kd.length kc).ownBlock=some g->some g≠v3.ownBlock):=qC (fun w3 v3 g3 h3=>by
      refine⟨AA.grown g3 (fun e=>by have:=(qq.lt OA.out _ e.symm).1;omega),B1.trans (below_grown g3 B1.size (fun j hj=>by have:=(qq.lt OA.out j hj).1;omega)),KA2.out.of_block (fun g hg=>g3.block g (qq.lt KA2.out g hg).2 (HAP.out g hg)),fun g hg=>?_⟩;rcases h3 with h3|h3
      ·rw[h3];exact HAP.out g hg
      ·rw[h3];have:=(qq.lt KA2.out g hg).2;simp only[ne_eq,jV.injEq];omega)
     clear kcc ey HS HKd;go_wp2_with(refine Ep _ rfl _ _ rfl (w.heap.size+1) u5 (Sd++Kd.take j) rfl OA.out _ 1 1 [y] rfl rfl L1.out lm s1 ?_;intro a3 c3 w3 o3 g3 v3)
     rw[ET.out,LE.out]at o3 v3;obtain⟨f1,f2,f3,f4⟩:=FIN.out w3 _ g3 v3;exact⟨⟨j+1,by omega,by go_num,qC o3,qC f3,qC f4,f1,f2⟩,by simp[intOf];omega⟩
    ·have i2:¬(j:Int)<(Kd.length:Int):=qQ;have e:j=Kd.length:=qQ;have HS2:Hid (AI wr (w.heap.size+1) u5 ((Q++DU (fun i=>(k.O i).id) (fun i=>(k.O i).up) k.on a).map (fun i=>(k.O i).id))):=qC (by
      have:=HS.out;rw[e,List.take_length,EQ.out]at this;exact this)
     clear HS e HKd HAP;go_wp2;exact⟨⟨t+1,_,by rw[jG];omega,LQ.out,by go_num,NX,HS2,A,hB⟩,by simp[intOf];omega⟩
  ·have e:t=Q.length:=qQ;have i1:¬(t:Int)<(Q.length:Int):=qQ;have PUT:Hid (Eu (Q.map (fun i=>(k.O i).id))=CM ((Gk (fun i=>(k.O i).id) (fun i=>(k.O i).up) k.on k.on u).map (fun i=>(k.O i).id))):=qC (bS HR.out H0.out hu HC.out (by rw[<-e];exact HB.out));clear HB e;have ZL:Hid ((Q.map (fun i=>(k.O i).id)).length<=271):=qC (by rw[QL.out];exact hq);have OS:Hid (AI wr (w.heap.size+1) (qV sa (Q.map (fun i=>(k.O i).id)).length sc) (Q.map (fun i=>(k.O i).id))):=qC (by rw[QL.out];exact HO.out);have QL2:Hid ((Q.map (fun i=>(k.O i).id)).length=Q.length):=QL;clear HO QL;generalize hSd:Q.map (fun i=>(k.O i).id)=Sd at *;clear hSd;rw[<-QL2.out]at i1;rw[<-QL2.out];have tl:Sd.length<=271:=ZL.out;have OM:=qC (AI.made wr (w.heap.size+1) (by have:=A.lt;omega));have B1:qN w w (wr.alloc (qG #[] 2)):=hB.alloc hB.size _;have OS1:=qC (AI.alloc OS.out (qG #[] 2));go_wp2;generalize hWx:wr.alloc (qG #[] 2)=Wx at *;go_loopw [9,10] (fun v i wr'=>∃(q:Nat) (A':Addr) (c':Nat),q<=Sd.length/\i= .int .i64 q/\v= qV (some A') (Eu (Sd.take q)).length c'/\(Eu (Sd.take q)).length<=c'/\c'<=maxLen/\Hid (AI wr' (w.heap.size+1) (qV (some A') (Eu (Sd.take q)).length c') (Eu (Sd.take q)))/\Hid (AI wr' (w.heap.size+1) (qV sa Sd.length sc) Sd)/\qN w w wr') (fun _ i _=>Sd.length-(intOf i).toNat)
   case atStart=>exact⟨0,_,0,qy _,rfl,rfl,jP _,by unfold maxLen;omega,OM,OS1,B1⟩
   case round=>
    obtain⟨q,A',c',hqs,rfl,rfl,hc1,hc2,HP,HQ,hB'⟩:=hrel;clear OM OS1 B1;by_cases hlt2:q<Sd.length
    ·obtain⟨y,ey⟩:∃y,Sd[q]? =some y:=⟨Sd[q],by simp[hlt2]⟩;obtain⟨kb,ko,rfl,_,kcc⟩:=AI.lies HQ.out qQ;have g1:wr.cell? ⟨kb,ko+q,none⟩=some (.int .i64 y):=kcc q _ (by simp[ey]);have i2:(q:Int)<(Sd.length:Int):=qQ;have hln:(Eu (Sd.take q)).length<=1048576:=(by have:=WP (Sd.take q);rw[xP]at this;omega);have ET:Hid (Eh (Eu (Sd.take q)) y=Eu (Sd.take (q+1))):=qC (by
      rw[zJ,ey];unfold Eu;rw[List.foldl_append];rfl)
     have C1:=qC (Ra A' c' (Eu (Sd.take q)) y wr hln hc1 hc2 (AI.lies HP.out));rw[ET.out]at C1;have PP:Hid (0<(Eu (Sd.take (q+1))).length):=qC (by rw[<-ET.out];exact aP _ _);clear kcc ey ET;go_wp2_with fail
     refine C1.out.mono ?_;rintro e w3 ⟨va,vc,rfl,o3,hb3⟩;obtain⟨g,rfl,z1,z2⟩:=o3.some_ PP.out;have HQ3:=qC (HQ.out.below hb3);have B3:=Af hB' hb3;have O3:=qC (o3.low (B':=w.heap.size+1) (by have:=qq.lt HP.out A'.block rfl;omega));clear o3 hb3 g1 C1 HP HQ hc1 hc2;go_wp2;exact⟨⟨q+1,_,vc,by omega,by go_num,rfl,z1,z2,O3,HQ3,B3⟩,by simp[intOf];omega⟩
    ·have i2:¬(q:Int)<(Sd.length:Int):=qQ;have e:q=Sd.length:=qQ;have HP2:Hid (AI wr w (qV (some A') (Eu (Sd.take q)).length c') (CM ((Gk (fun i=>(k.O i).id) (fun i=>(k.O i).up) k.on k.on u).map (fun i=>(k.O i).id)))):=qC (by
      rw[<-PUT.out];have h:=HP.out.low (B':=w.heap.size) qQ;have e2:Sd.take q=Sd:=(by rw[e,List.take_length]);rw[e2]at h ⊢;exact h)
     clear HP e PUT;go_wp2;go_ret;exact⟨_,rfl,HP2.out,hB'⟩
end Go.Proofs.YtdaccbddcjlkpaaGreatDoor
