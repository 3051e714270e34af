import Derived.Lib.SliceRun
import Derived.Orders
import Derived.Test.YteoihknaljgocaaGreatDoorZ24m
set_option maxRecDepth 100000
set_option maxHeartbeats 16000000
namespace Go.Proofs.YteoihknaljgocaaGreatDoor
open Go Go.RowKit Go.Deep Go.Maps Go.Shelf Go.Proofs.Tryz
section
variable {E:Nat->Addr}{w W:World}{B P:Nat}{s:Al}{g ca q co:Nat}{lt:List Ae}{lo:List Ab}{t c C:Nat}{nb:Nat->Nat}{kv:Nat->Value}{K:Nat->List Int}{X:Ae}
theorem Q6.low{w w':World}(h:Q6 w)(hb:Below w w w'):Q6 w':=h.below hb
theorem Env.below(v:Env E w B P s g ca q co lt lo t c C nb kv K X)(hb:Below w w W):Env E W B P s g ca q co lt lo t c C nb kv K X:=
 ⟨v.h.below hb,v.n.below hb,v.e.below v.h14 (hb.mono v.hB),v.h14,Nat.le_trans v.hB hb.size,v.ht,v.hX,fun W' hW=>v.hs W' ((hb.mono v.hB).trans hW),v.so,v.ok,v.tab.below hb,v.kid,v.ti⟩
theorem Env.thr(v:Env E w B P s g ca q co lt lo t c C nb kv K X):JO X:=by rw[v.hX];exact Ef v.ok _ (List.getElem_mem v.ht)
theorem Env.xat(v:Env E w B P s g ca q co lt lo t c C nb kv K X):X.at w:=by rw[v.hX];exact(v.h.st.tn _ (List.getElem_mem v.ht)).at
theorem Env.oat(v:Env E w B P s g ca q co lt lo t c C nb kv K X){u:Nat}(hu:u<lo.length):(Aa lo u).at w:=by
 rw[Az hu];exact⟨(v.h.st.on _ (List.getElem_mem hu)).1.1,(v.h.st.on _ (List.getElem_mem hu)).2.1.1,(v.h.st.on _ (List.getElem_mem hu)).2.2.1.1,(v.h.st.on _ (List.getElem_mem hu)).2.2.2.1,Cm v.ok _ (List.getElem_mem hu)⟩
theorem Env.obj(v:Env E w B P s g ca q co lt lo t c C nb kv K X){u:Nat}(hu:u<lo.length):MA (Aa lo u):=Ed v.ok _ (FR hu)
theorem Env.changes(v:Env E w B P s g ca q co lt lo t c C nb kv K X)(p:Nat)(hp:p<lo.length)(W:World)(hb:Below w w W):
 Calls prog 13 #[.agg X,.agg #[.int .i64 (Aa lo p).b1,.slice (Aa lo p).c1.a (Aa lo p).c1.n (Aa lo p).c1.k]] W fun e w'=>e= .returned (.bool (Ap X (Aa lo p).b1 (Aa lo p).c1))/\Below W W w':=
 Qa (v.xat.below hb) ((v.oat hp).1.below hb) v.thr (v.obj hp).l1
theorem Env.sees(v:Env E w B P s g ca q co lt lo t c C nb kv K X)(p:Nat)(hp:p<lo.length)(W:World)(hb:Below w w W):
 Calls prog 29 #[.agg X,.agg #[.int .i64 (Aa lo p).b1,.slice (Aa lo p).c1.a (Aa lo p).c1.n (Aa lo p).c1.k]] W fun e w'=>e= .returned (.bool (Gz X (Aa lo p).b1 (Aa lo p).c1))/\Below W W w':=
 aw (v.xat.below hb) ((v.oat hp).1.below hb) v.thr (v.obj hp).l1
theorem aS{s:Al}(so:s.ok=true):(Lit.int .i64 s.to).wf=true:=by
 refine NY ?_;unfold Al.ok Hw Fg at so;simp only[Bool.and_eq_true]at so;obtain⟨⟨_,h⟩,_⟩:=so;unfold Mt at h;split at h
 ·simp only[Ep]at h;omega
 ·have:=beq_iff_eq.1 h;omega
theorem bS{s:Al}(sf:US s):(Lit.int .i64 s.id).wf=true:=by
 refine NY ?_;have h:=sf.id;unfold Mt at h;split at h
 ·simp only[Ep]at h;omega
 ·have:=beq_iff_eq.1 h;omega
end
def KP(w:World)(P:Nat):Prop:=∃(ga qa:Option Addr) (n m ca co:Nat),w.cell? ⟨P,10,none⟩=some (.slice ga n ca)/\w.cell? ⟨P,11,none⟩=some (.slice qa m co)
theorem KP.of{w:World}{P ty:Nat}{s:Al}{g nt ca q no co t:Nat}{m:Value}(h:Ag w P (.cells (Ie s g nt ca q no co t m) ty)):KP w P:=⟨_,_,_,_,_,_,h.jZ.2.1,h.jZ.2.2.1⟩
def JW(E:Nat->Addr)(B P:Nat)(s:Al)(lt:List Ae)(lo:List Ab)(t:Nat)(X:Ae)(m:Value)(w w':World)(tx:ByteArray)(v:Value):Prop:=
 Below B w w'/\((KP w' P/\∃c,Told w' B E v c/\c≠0/\FA X s lt lo t c ⟨#[]⟩ lt lo)∨(v= .nilIface/\∃(g ca q co:Nat) (lt':List Ae) (lo':List Ab),M6 w' B P s g ca q co lt' lo' t m/\FA X s lt lo t 0 tx lt' lo'))
section
variable {E:Nat->Addr}{w W:World}{B P:Nat}{s:Al}{g ca q co:Nat}{lt:List Ae}{lo:List Ab}{t c C:Nat}{nb:Nat->Nat}{kv:Nat->Value}{K:Nat->List Int}{X:Ae}
theorem JW.from{m:Value}{w':World}{tx:ByteArray}{r:Value}(h:JW E B P s lt lo t X m W w' tx r)(hb:Below B w W):JW E B P s lt lo t X m w w' tx r:=⟨hb.trans h.1,h.2⟩
theorem JW.no{m:Value}{w':World}{tx:ByteArray}{r:Value}{c:Int}(kp:KP w' P)(hb:Below B w w')(ht:Told w' B E r c)(hc:c≠0)(ha:FA X s lt lo t c ⟨#[]⟩ lt lo):JW E B P s lt lo t X m w w' tx r:=⟨hb,.inl ⟨kp,c,ht,hc,ha⟩⟩
theorem JW.yes{m:Value}{w':World}{tx:ByteArray}{lt':List Ae}{lo':List Ab}{g' ca' q' co':Nat}(hb:Below B w w')(hs:M6 w' B P s g' ca' q' co' lt' lo' t m)(ha:FA X s lt lo t 0 tx lt' lo'):JW E B P s lt lo t X m w w' tx .nilIface:=⟨hb,.inr ⟨rfl,_,_,_,_,_,_,hs,ha⟩⟩
theorem bu(v:Env E w B P s g ca q co lt lo t c C nb kv K X){u:Nat}(hu:Cc X lo s.id 1=some u)(hk:(s.kind=6/\Ap X (Aa lo u).b1 (Aa lo u).c1=true)∨s.kind=7∨s.kind=8):
 Calls prog 134 #[.pointer P,.agg #[.pointer (some ⟨q,u*10,none⟩)]] w fun e w'=>∃tx r,e= .returned (.tuple #[.string tx,r])/\JW E B P s lt lo t X (.map (some c)) w w' tx r:=by
 obtain⟨_,ul,_⟩:=Dx hu;have eo:=Az ul;have hd:=Cm v.ok;rcases hk with⟨hk,hc⟩|hk|hk
 ·refine(Lp w B P s g ca q co lt lo t _ v.h v.hB u ul _ eo hd hk).mono ?_;rintro e w' ⟨rfl,h1,h2⟩;exact⟨_,_,rfl,.yes h2 h1.f (.k6 hk (.inr ⟨u,hu,.inr ⟨hc,rfl,rfl,rfl,rfl⟩⟩))⟩
 ·refine(ME w B P s g ca q co lt lo t _ v.h v.hB u ul _ eo hd hk).mono ?_;rintro e w' ⟨rfl,h1,h2⟩;exact⟨_,_,rfl,.yes h2 h1.f (.k7 hk (.inr ⟨u,hu,rfl,rfl,rfl,rfl⟩))⟩
 ·have b0:Below w w (w.alloc (.cells #[.pointer (some ⟨q,u*10,none⟩)] 189)):=Bf w _;have V:=v.below b0;have CT:=Uk E _ B P s g ca q co lt lo t c C nb kv K V.h V.n V.e V.h14 V.hB V.ht X V.hX u ul _ eo hd (aS v.so) (fun p hp W hW=>V.changes p hp W hW);refine(Mv w B P s g ca q co lt lo t _ v.h u ul _ eo hd hk _ CT).mono ?_;rintro e w' ⟨r,rfl,c',lo',h1,h2,h3,h4⟩;refine⟨_,r,rfl,?_⟩;have h2':=(b0.mono v.hB).trans h2;rcases h4 with⟨a1,rfl,rfl⟩|⟨p,a1,⟨a2,rfl,rfl⟩|⟨a2,a3,rfl,rfl⟩⟩
  ·exact .no (.of h1.wk) h2' h3 (by decide) (.k8 hk (.inr ⟨u,hu,.inl ⟨a1,rfl,rfl,rfl,rfl⟩⟩))
  ·exact .no (.of h1.wk) h2' h3 (by decide) (.k8 hk (.inr ⟨u,hu,.inr ⟨p,a1,.inl ⟨a2,rfl,rfl,rfl,rfl⟩⟩⟩))
  ·rcases h3 with⟨_,rfl⟩|⟨h,_⟩
   ·exact .yes h2' h1.f (.k8 hk (.inr ⟨u,hu,.inr ⟨p,a1,.inr ⟨a2,a3,rfl,rfl,rfl,rfl⟩⟩⟩))
   ·exact absurd rfl h
theorem cr(v:Env E w B P s g ca q co lt lo t c C nb kv K X){u:Nat}(hu:Cc X lo s.id 2=some u)(hc:Ap X (Aa lo u).b1 (Aa lo u).c1=true)(hk:s.kind=9∨s.kind=10):
 Calls prog 135 #[.pointer P,.agg #[.pointer (some ⟨q,u*10,none⟩)]] w fun e w'=>∃tx r,e= .returned (.tuple #[.string tx,r])/\JW E B P s lt lo t X (.map (some c)) w w' tx r:=by
 obtain⟨_,ul,_⟩:=Dx hu;have eo:=Az ul;have hd:=Cm v.ok;have hi:=(Lg v.ok _ (FR ul)).1;rcases hk with hk|hk
 ·by_cases hf:(Aa lo u).jA.n=8
  ·refine(OX E w B P s g ca q co lt lo t _ v.h v.e v.h14 v.hB u ul _ eo hd hk hf).mono ?_;rintro e w' ⟨r,rfl,h1,h2,h3⟩;exact⟨_,r,rfl,.no (.of h3.wk) h1 h2 (by decide) (.k9 hk (.inr ⟨u,hu,.inr (.inl ⟨hc,hf,rfl,rfl,rfl,rfl⟩)⟩))⟩
  ·refine(Qx w B P s g ca q co lt lo t _ v.h v.hB u ul _ eo hd hk hf (by omega) (v.ti _ (FR ul)) (by have:=Gc (GB v.so).data;unfold maxLen;omega)).mono ?_;rintro e w' ⟨a,cc,rfl,h1,h2⟩;exact⟨_,_,rfl,.yes h2 h1.f (.k9 hk (.inr ⟨u,hu,.inr (.inr ⟨hc,hf,rfl,rfl,rfl,a,cc,rfl⟩)⟩))⟩
 ·by_cases hf:(Aa lo u).jA.n=0
  ·refine(Oz E w B P s g ca q co lt lo t _ v.h v.e v.h14 v.hB u ul _ eo hd hk hf).mono ?_;rintro e w' ⟨r,rfl,h1,h2,h3⟩;exact⟨_,r,rfl,.no (.of h3.wk) h1 h2 (by decide) (.k10 hk (.inr ⟨u,hu,.inr (.inl ⟨hc,hf,rfl,rfl,rfl,rfl⟩)⟩))⟩
  ·refine(Ox w B P s g ca q co lt lo t _ v.h v.hB u ul _ eo hd hk hf (by omega)).mono ?_;rintro e w' ⟨rfl,⟨a,kk,h1⟩,h2⟩;exact⟨_,_,rfl,.yes h2 h1 (.k10 hk (.inr ⟨u,hu,.inr (.inr ⟨hc,hf,rfl,rfl,rfl,a,kk,rfl⟩)⟩))⟩
theorem cd(v:Env E w B P s g ca q co lt lo t c C nb kv K X){u:Nat}(hu:Cc X lo s.id 3=some u)(hk:s.kind=15):
 Calls prog 136 #[.pointer P,.agg #[.pointer (some ⟨q,u*10,none⟩)]] w fun e w'=>∃tx,e= .returned (.string tx)/\JW E B P s lt lo t X (.map (some c)) w w' tx .nilIface:=by
 obtain⟨ha,ul,hid_,_⟩:=Dx hu;have eo:=Az ul;rw[<-eo]at hid_;have on:=Ek v.ok;have hl:(IW (Aa lo) (Aa lo u).id lo.length).length<=lo.length:=by
  unfold IW;rw[List.length_map];exact Nat.le_trans (List.length_filter_le _ _) (by simp)
 refine(XZ w B P s g ca q co lt lo t c C nb kv K v.h v.n v.hB u ul _ eo (Cm v.ok) (by rw[hid_];exact ha) (NY (Hv v.ok _ (FR ul))) _ (v.kid u ul) (by omega) (fun x hx=>?_) v.tab).mono ?_
 ·unfold IW at hx;obtain⟨i,hi,rfl⟩:=List.mem_map.1 hx;exact Hv v.ok _ (FR (List.mem_range.1 (List.mem_filter.1 hi).1))
 ·rintro e w' ⟨rfl,h1,h2⟩;refine⟨_,rfl,.yes h2 h1.f (.k15 hk (.inr ⟨u,hu,rfl,?_,rfl,rfl⟩))⟩;rw[hid_]
theorem bZ(v:Env E w B P s g ca q co lt lo t c C nb kv K X){u:Nat}(hu:Cc X lo s.id 4=some u)(hk:s.kind=13):
 Calls prog 137 #[.pointer P,.agg #[.pointer (some ⟨q,u*10,none⟩)]] w fun e w'=>∃r,e= .returned r/\JW E B P s lt lo t X (.map (some c)) w w' ⟨#[]⟩ r:=by
 obtain⟨ha,ul,_⟩:=Dx hu;have eo:=Az ul;have o1:=Jb v.thr.own;have o2:=Jb (v.obj ul).own;have PT:Lib.compact (Ct ((List.range X.own.n).map X.own.h++(List.range (Aa lo u).own.n).map (Aa lo u).own.h))=DY ((List.range X.own.n).map X.own.h) (Aa lo u).own.h (Aa lo u).own.n:=Ms (SI v.thr.own) _ _;refine(Vj E w B P s g ca q co lt lo t _ v.h v.e v.h14 v.hB v.ht X v.hX u ul _ eo (Cm v.ok) (CY X.b1 X.c1 X.own (Aa lo u).b2 (Aa lo u).c2) (fun W hW=>IB (v.xat.below hW).1 (v.xat.below hW).2.2 ((v.oat ul).2.2.2.1.below hW) v.thr.l1 v.thr.own (v.obj ul).l2) (by omega) (by omega) _ PT.symm).mono ?_;rintro e w' ⟨r,x,c',rfl,h1,h2,h3,h4⟩;refine⟨r,rfl,?_⟩;rcases h4 with⟨rfl,a1,rfl⟩|⟨rfl,a1,a2,rfl⟩|⟨rfl,a1,a2,a,cc,rfl⟩
 ·exact .no (.of h1.wk) h2 h3 (by decide) (.k13 hk (.inr ⟨u,hu,.inl ⟨a1,rfl,rfl,rfl,rfl⟩⟩))
 ·exact .no (.of h1.wk) h2 h3 (by decide) (.k13 hk (.inr ⟨u,hu,.inr (.inl ⟨a1,a2,rfl,rfl,rfl,rfl⟩)⟩))
 ·rcases h3 with⟨_,rfl⟩|⟨h,_⟩
  ·exact .yes h2 h1.f (.k13 hk (.inr ⟨u,hu,.inr (.inr ⟨a1,a2,rfl,rfl,a,cc,rfl,rfl⟩)⟩))
  ·exact absurd rfl h
end
open Go.BigFrame
def IQ(l l2:List Ab):Prop:=l2.length=l.length/\∀j,j<l.length->(Aa l j).same (Aa l2 j)
theorem IQ.refl(l:List Ab):IQ l l:=⟨rfl,fun _ _=>Ab.same.refl _⟩
def Nk(E:Nat->Addr)(B P:Nat)(s:Al)(lt:List Ae)(lo:List Ab)(t:Nat)(X:Ae)(m:Value)(w w':World)(tx:ByteArray)(v:Value):Prop:=
 Below B w w'/\((KP w' P/\∃c,Told w' B E v c/\c≠0/\FA X s lt lo t c ⟨#[]⟩ lt lo)∨(v= .nilIface/\∃(g ca q co:Nat) (lt':List Ae) (lo' lo2:List Ab),M6 w' B P s g ca q co lt' lo' t m/\IQ lo' lo2/\FA X s lt lo t 0 tx lt' lo2))
theorem JW.q{E:Nat->Addr}{B P:Nat}{s:Al}{lt:List Ae}{lo:List Ab}{t:Nat}{X:Ae}{m:Value}{w w':World}{tx:ByteArray}{v:Value}(h:JW E B P s lt lo t X m w w' tx v):Nk E B P s lt lo t X m w w' tx v:=by
 refine⟨h.1,?_⟩;rcases h.2 with h|⟨h1,g,ca,q,co,lt',lo',h2,h3⟩
 ·exact .inl h
 ·exact .inr ⟨h1,g,ca,q,co,lt',lo',lo',h2,IQ.refl _,h3⟩
def Xl(E:Nat->Addr)(s:Al):Prop:=∀{w:World}{B P g ca q co:Nat}{lt:List Ae}{lo:List Ab}{t c C:Nat}{nb:Nat->Nat}{kv:Nat->Value}{K:Nat->List Int}{X:Ae},Env E w B P s g ca q co lt lo t c C nb kv K X->18<=B->
 Calls prog 46 #[.pointer P] w fun e w'=>∃tx r,e= .returned (.tuple #[.string tx,r])/\Nk E B P s lt lo t X (.map (some c)) w w' tx r

variable {w:World}{B q co n i e sz:Nat}{l:List Ab}
theorem AO.store(h:w.ownsRow B 44 10 (.slice q n co) n (Ax l))(hi:i<l.length)(v:Ab):
 ((((((((((w.setCell ⟨q,i*10,none⟩ (.int .i64 v.id)).setCell ⟨q,i*10+1,none⟩ (.int .i64 v.kind)).setCell ⟨q,i*10+2,none⟩ (.int .i64 v.up)).setCell ⟨q,i*10+3,none⟩ (.int .i64 v.b1)).setCell ⟨q,i*10+4,none⟩ (.slice v.c1.a v.c1.n v.c1.k)).setCell ⟨q,i*10+5,none⟩ (.string v.data)).setCell ⟨q,i*10+6,none⟩ (.slice v.jA.a v.jA.n v.jA.k)).setCell ⟨q,i*10+7,none⟩ (.slice v.own.a v.own.n v.own.k)).setCell ⟨q,i*10+8,none⟩ (.int .i64 v.b2)).setCell ⟨q,i*10+9,none⟩ (.slice v.c2.a v.c2.n v.c2.k)).ownsRow B 44 10 (.slice q n co) n (Ax (l.set i v)):=by
 obtain⟨o,ho⟩:∃o,o=l[i]:=⟨_,rfl⟩;have e0:=Dd (f:=Ab.cs) Ab.jK (l:=l) (t:=i) (x:=(⟨v.id,o.kind,o.up,o.b1,o.c1,o.data,o.jA,o.own,o.b2,o.c2⟩:Ab)) (u:= .int .i64 v.id) (i:=0) (by exact hi) (by omega) (by rw[<-ho];rfl);have h0:=(World.ownsRow.stored h (i*10+0) (.int .i64 v.id)).1;rw[show Ax l=((l).map Ab.cs).flatten from rfl,e0]at h0;have e1:=Dd (f:=Ab.cs) Ab.jK (l:=(l.set i ⟨v.id,o.kind,o.up,o.b1,o.c1,o.data,o.jA,o.own,o.b2,o.c2⟩)) (t:=i) (x:=(⟨v.id,v.kind,o.up,o.b1,o.c1,o.data,o.jA,o.own,o.b2,o.c2⟩:Ab)) (u:= .int .i64 v.kind) (i:=1) (by rw[List.length_set];exact hi) (by omega) (by simp only[List.getElem_set_self];rfl);rw[List.set_set]at e1;have h1:=(World.ownsRow.stored h0 (i*10+1) (.int .i64 v.kind)).1;rw[e1]at h1;have e2:=Dd (f:=Ab.cs) Ab.jK (l:=(l.set i ⟨v.id,v.kind,o.up,o.b1,o.c1,o.data,o.jA,o.own,o.b2,o.c2⟩)) (t:=i) (x:=(⟨v.id,v.kind,v.up,o.b1,o.c1,o.data,o.jA,o.own,o.b2,o.c2⟩:Ab)) (u:= .int .i64 v.up) (i:=2) (by rw[List.length_set];exact hi) (by omega) (by simp only[List.getElem_set_self];rfl);rw[List.set_set]at e2;have h2:=(World.ownsRow.stored h1 (i*10+2) (.int .i64 v.up)).1;rw[e2]at h2;have e3:=Dd (f:=Ab.cs) Ab.jK (l:=(l.set i ⟨v.id,v.kind,v.up,o.b1,o.c1,o.data,o.jA,o.own,o.b2,o.c2⟩)) (t:=i) (x:=(⟨v.id,v.kind,v.up,v.b1,o.c1,o.data,o.jA,o.own,o.b2,o.c2⟩:Ab)) (u:= .int .i64 v.b1) (i:=3) (by rw[List.length_set];exact hi) (by omega) (by simp only[List.getElem_set_self];rfl);rw[List.set_set]at e3;have h3:=(World.ownsRow.stored h2 (i*10+3) (.int .i64 v.b1)).1;rw[e3]at h3;have e4:=Dd (f:=Ab.cs) Ab.jK (l:=(l.set i ⟨v.id,v.kind,v.up,v.b1,o.c1,o.data,o.jA,o.own,o.b2,o.c2⟩)) (t:=i) (x:=(⟨v.id,v.kind,v.up,v.b1,v.c1,o.data,o.jA,o.own,o.b2,o.c2⟩:Ab)) (u:= .slice v.c1.a v.c1.n v.c1.k) (i:=4) (by rw[List.length_set];exact hi) (by omega) (by simp only[List.getElem_set_self];rfl);rw[List.set_set]at e4;have h4:=(World.ownsRow.stored h3 (i*10+4) (.slice v.c1.a v.c1.n v.c1.k)).1;rw[e4]at h4;have e5:=Dd (f:=Ab.cs) Ab.jK (l:=(l.set i ⟨v.id,v.kind,v.up,v.b1,v.c1,o.data,o.jA,o.own,o.b2,o.c2⟩)) (t:=i) (x:=(⟨v.id,v.kind,v.up,v.b1,v.c1,v.data,o.jA,o.own,o.b2,o.c2⟩:Ab)) (u:= .string v.data) (i:=5) (by rw[List.length_set];exact hi) (by omega) (by simp only[List.getElem_set_self];rfl);rw[List.set_set]at e5;have h5:=(World.ownsRow.stored h4 (i*10+5) (.string v.data)).1;rw[e5]at h5;have e6:=Dd (f:=Ab.cs) Ab.jK (l:=(l.set i ⟨v.id,v.kind,v.up,v.b1,v.c1,v.data,o.jA,o.own,o.b2,o.c2⟩)) (t:=i) (x:=(⟨v.id,v.kind,v.up,v.b1,v.c1,v.data,v.jA,o.own,o.b2,o.c2⟩:Ab)) (u:= .slice v.jA.a v.jA.n v.jA.k) (i:=6) (by rw[List.length_set];exact hi) (by omega) (by simp only[List.getElem_set_self];rfl);rw[List.set_set]at e6;have h6:=(World.ownsRow.stored h5 (i*10+6) (.slice v.jA.a v.jA.n v.jA.k)).1;rw[e6]at h6;have e7:=Dd (f:=Ab.cs) Ab.jK (l:=(l.set i ⟨v.id,v.kind,v.up,v.b1,v.c1,v.data,v.jA,o.own,o.b2,o.c2⟩)) (t:=i) (x:=(⟨v.id,v.kind,v.up,v.b1,v.c1,v.data,v.jA,v.own,o.b2,o.c2⟩:Ab)) (u:= .slice v.own.a v.own.n v.own.k) (i:=7) (by rw[List.length_set];exact hi) (by omega) (by simp only[List.getElem_set_self];rfl);rw[List.set_set]at e7;have h7:=(World.ownsRow.stored h6 (i*10+7) (.slice v.own.a v.own.n v.own.k)).1;rw[e7]at h7;have e8:=Dd (f:=Ab.cs) Ab.jK (l:=(l.set i ⟨v.id,v.kind,v.up,v.b1,v.c1,v.data,v.jA,v.own,o.b2,o.c2⟩)) (t:=i) (x:=(⟨v.id,v.kind,v.up,v.b1,v.c1,v.data,v.jA,v.own,v.b2,o.c2⟩:Ab)) (u:= .int .i64 v.b2) (i:=8) (by rw[List.length_set];exact hi) (by omega) (by simp only[List.getElem_set_self];rfl);rw[List.set_set]at e8;have h8:=(World.ownsRow.stored h7 (i*10+8) (.int .i64 v.b2)).1;rw[e8]at h8;have e9:=Dd (f:=Ab.cs) Ab.jK (l:=(l.set i ⟨v.id,v.kind,v.up,v.b1,v.c1,v.data,v.jA,v.own,v.b2,o.c2⟩)) (t:=i) (x:=(⟨v.id,v.kind,v.up,v.b1,v.c1,v.data,v.jA,v.own,v.b2,v.c2⟩:Ab)) (u:= .slice v.c2.a v.c2.n v.c2.k) (i:=9) (by rw[List.length_set];exact hi) (by omega) (by simp only[List.getElem_set_self];rfl);rw[List.set_set]at e9;have h9:=(World.ownsRow.stored h8 (i*10+9) (.slice v.c2.a v.c2.n v.c2.k)).1;rw[e9]at h9;exact h9
theorem AO.cells(h:AO w B (.slice q l.length co) l)(hi:i<l.length):C9 w q (i*10) l[i]/\q<w.heap.size/\B<=q/\(∃cur,Ag w q (.cells cur 44)):=by
 obtain⟨b,off,e,hlt,hc⟩:=Bp.own h (by omega);cases e;obtain⟨c0,c1,c2,c3,c4,c5,c6,c7,c8,c9⟩:=Mf hi;have g:∀(j:Nat) (u:Value),(Ax l)[j]? =some u->w.cell? ⟨q,j,none⟩=some u:=fun j u hu=>by
  have:=hc j u hu;rw[Nat.zero_add]at this;exact this
 refine⟨⟨g _ _ c0,g _ _ c1,g _ _ c2,g _ _ c3,g _ _ c4,g _ _ c5,g _ _ c6,g _ _ c7,g _ _ c8,g _ _ c9⟩,hlt,?_⟩;rcases h.2 with⟨hv,_⟩|⟨g',cap,cur,hv,hB,hgg,_⟩
 ·cases hv
 ·cases hv;exact⟨hB,cur,hgg⟩
theorem Sv:∀(vs:List Value) (o:Nat) (w:World) (xs:List Value),w.ownsRow B e sz (.slice q n co) n xs->∃xs',(w.setCells q o vs).ownsRow B e sz (.slice q n co) n xs'/\xs'.take o=xs.take o/\w.grownBy (w.setCells q o vs) (some q)
 |[],o,w,xs,h=>⟨xs,h,rfl,⟨rfl,rfl,rfl,Nat.le_refl _,fun _ _ _=>rfl⟩⟩
 |v::r,o,w,xs,h=>by
  obtain⟨h1,g1⟩:=World.ownsRow.stored h o v;obtain⟨xs',h2,h3,g2⟩:=Sv r (o+1) _ _ h1;refine⟨xs',h2,?_,⟨g2.os.trans g1.os,g2.tape.trans g1.tape,g2.output.trans g1.output,Nat.le_trans g1.size g2.size,fun k hk hne=>(g2.block k (Nat.lt_of_lt_of_le hk g1.size) hne).trans (g1.block k hk hne)⟩⟩;have:=congrArg (List.take o) h3;rw[List.take_take,List.take_take,Nat.min_eq_left (by omega)]at this;rw[this,List.take_set_of_le (by omega)]
theorem Zp{m:Nat}{xs ys:List Value}(h:w.ownsRow B e sz (.slice q n co) n xs)(hm:m<=n)(hy:ys=xs.take (m*sz)):w.ownsRow B e sz (.slice q m co) m ys:=by
 rcases h.2 with⟨hv,_⟩|⟨g',cap,cur,hv,hB,hgg,h1,h2,h3,h4⟩
 ·cases hv
 ·cases hv;have hmn:m*sz<=n*sz:=Nat.mul_le_mul_right _ hm;refine⟨by rw[hy,List.length_take,h.1];omega,.inr ⟨_,_,cur,rfl,hB,hgg,by omega,h2,h3,?_⟩⟩;rw[hy,<-h4,List.take_take,Nat.min_eq_left hmn]
theorem Ry(w:World)(b o n c:Nat)(hn:0<n)(hc:∀j,j<n*10->(w.cell? ⟨b,o+j,none⟩).isSome=true)(hf:∀j,j<n*10->w.frozen? ⟨b,o+j,none⟩=false):
 ∃vs,∀ty,(Builtin.clear_ #[25] ty #[.slice (some ⟨b,o,none⟩) n c]).run prog w= .ok (.tuple #[]) (w.setCells b o vs):=by
 have n1:Na #[.int .i64 0,.int .i64 0,.int .i64 0,.int .i64 0,.slice none 0 0,.string ⟨#[]⟩,.slice none 0 0,.slice none 0 0,.int .i64 0,.slice none 0 0]:=⟨⟩;have hl:(Builtin.zeroCells n1 n).toList.length=n*10:=by
  simp[Builtin.zeroCells]
 have h1:∀v∈(Builtin.zeroCells n1 n).toList,v.oneCell'=true:=fun v hv=>by
  simp only[Builtin.zeroCells,Array.toList_map,List.mem_map]at hv;obtain⟨i,_,rfl⟩:=hv;have hi:i%10<10:=Nat.mod_lt _ (by decide);show(#[Value.int .i64 0,.int .i64 0,.int .i64 0,.int .i64 0,.slice none 0 0,.string ⟨#[]⟩,.slice none 0 0,.slice none 0 0,.int .i64 0,.slice none 0 0][i%10]!).oneCell'=true;generalize i%10=k at *;rcases k with _|_|_|_|_|_|_|_|_|_|k;all_goals first|rfl|omega
 have hst:=run_storeCells_cells (P:=prog) b o _ 0 w (by rw[hl];simpa using hc) (by rw[hl];simpa using hf) h1;rw[Nat.add_zero]at hst;have hu:∀w,(underlying 25).run prog w= .ok (.slice 44) w:=fun w=>by simp[underlying,go_sem,underlying25]
 clear hl h1 hc hf;obtain⟨m,rfl⟩:∃m,n=m+1:=⟨n-1,by omega⟩;refine⟨(Builtin.zeroCells n1 (m+1)).toList,fun ty=>?_⟩;simp[Builtin.clear_,go_sem,hu,zeroValue44,Value.cells,hst]
theorem Rj(o:Ab)(vb ga:Nat)(G:AJ)(w:World)(hv:w.cell? ⟨vb,ga,none⟩=some (.slice G.a G.n G.k))(hl:vb<w.heap.size)(hG:G.at w):
 Calls prog 130 #[.agg o,.pointer (some ⟨vb,ga,none⟩)] w fun e w'=>e= .returned (.bool (hasB G.n G.h o.id))/\Below w w w':=by
 have b0:Below w w (w.alloc (.cells o 44)):=Bf w _;have v0:=(b0.cell (p:=⟨vb,ga,none⟩) hl).trans hv;have CT:=hid (Iz G.a G.n G.k G.h o.id _ hG.1 (hG.below b0).2);have B0:=hid b0;clear b0 hG hv;go_enter func130,ntmps130
 go_wp2_with fail
 refine CT.out.mono ?_;rintro e w1 ⟨rfl,rfl⟩;go_wp2;go_ret;exact⟨rfl,B0⟩
theorem Tk(B q co vb:Nat)(l:List Ab)(G:AJ)(w:World)(h:AO w B (.slice q l.length co) l)(hn:l.length<=1048576)(hv:w.cell? ⟨vb,0,none⟩=some (.slice G.a G.n G.k))(hl:vb<w.heap.size)(hG:G.at w):
 Calls prog 151 #[.slice q l.length co,.func (.func 130) #[] #[.pointer vb]] w fun e w'=>Below w w w'/\((e= .returned (.int .i64 (-1))/\∀x∈l,hasB G.n G.h x.id=false)∨∃i,i<l.length/\e= .returned (.int .i64 i)/\(∀x∈l.take i,hasB G.n G.h x.id=false)/\hasB G.n G.h (Aa l i).id=true):=by
 have HO:=hid h;have HG:=hid hG;have HV:=hid hv;clear h hG hv;go_enter func151,ntmps151
 go_wp2;go_loopw [8] (fun i wr=>∃k:Nat,k<=l.length/\i= .int .i64 k/\Hid (Below w w wr)/\Hid (∀x∈l.take k,hasB G.n G.h x.id=false)) (fun i _=>l.length-(intOf i).toNat)
 case atStart=>exact⟨0,Nat.zero_le _,rfl,hid (Below.refl _ _),hid (fun x hx=>by simp at hx)⟩
 case round=>
  obtain⟨k,hk,rfl,BW,NG⟩:=hrel;by_cases hlt:k<l.length
  ·have i1:(k:Int)<(l.length:Int):=(by omega);have i0:(0:Int)<=(k:Int):=(by omega);obtain⟨CC,ql,_⟩:=AO.cells (AO.below HO BW) hlt;have q0:wr.cell? ⟨q,k*10,none⟩=some (.int .i64 l[k].id):=CC.c0;have q1:wr.cell? ⟨q,k*10+1,none⟩=some (.int .i64 l[k].kind):=CC.c1;have q2:wr.cell? ⟨q,k*10+2,none⟩=some (.int .i64 l[k].up):=CC.c2;have q3:wr.cell? ⟨q,k*10+3,none⟩=some (.int .i64 l[k].b1):=CC.c3;have q4:wr.cell? ⟨q,k*10+4,none⟩=some (.slice l[k].c1.a l[k].c1.n l[k].c1.k):=CC.c4;have q5:wr.cell? ⟨q,k*10+5,none⟩=some (.string l[k].data):=CC.c5;have q6:wr.cell? ⟨q,k*10+6,none⟩=some (.slice l[k].jA.a l[k].jA.n l[k].jA.k):=CC.c6;have q7:wr.cell? ⟨q,k*10+7,none⟩=some (.slice l[k].own.a l[k].own.n l[k].own.k):=CC.c7;have q8:wr.cell? ⟨q,k*10+8,none⟩=some (.int .i64 l[k].b2):=CC.c8;have q9:wr.cell? ⟨q,k*10+9,none⟩=some (.slice l[k].c2.a l[k].c2.n l[k].c2.k):=CC.c9;have GA:=hid (Rj l[k] vb 0 G wr ((BW.out.cell (p:=⟨vb,0,none⟩) hl).trans HV) (Nat.lt_of_lt_of_le hl BW.out.size) (HG.out.below BW));clear CC;go_wp2_with fail
   refine GA.out.mono ?_;rintro e w1 ⟨rfl,b1⟩;have B1:=hid (Af BW b1);clear b1 q0 q1 q2 q3 q4 q5 q6 q7 q8 q9 GA;cases hg:hasB G.n G.h l[k].id with
   |true=>
    go_wp2;go_ret;refine⟨B1,.inr ⟨k,hlt,rfl,NG,?_⟩⟩;rw[Az hlt];exact hg
   |false=>
    go_wp2;go_roundw;case rel=>
     refine⟨k+1,by omega,by go_num,B1,hid (fun x hx=>?_)⟩;rw[List.take_add_one,List.getElem?_eq_getElem hlt]at hx;rcases List.mem_append.1 hx with hx|hx
     ·exact NG.out x hx
     ·simp at hx;rw[hx];exact hg
    case measure=>simp[intOf];omega
  ·have i1:¬(k:Int)<(l.length:Int):=(by omega);go_wp2;go_ret;refine⟨BW,.inl ⟨rfl,fun x hx=>NG x ?_⟩⟩;rw[List.take_of_length_le (by omega)];exact hx
variable {G:AJ}{l L:List Ab}{k q B co p:Nat}{w w1 w2 wr:World}
def Gu(G:AJ)(l:List Ab):List Ab:=l.filter (fun o=> !hasB G.n G.h o.id)
theorem MS(h:∀x∈l,hasB G.n G.h x.id=false):Gu G l=l:=List.filter_eq_self.2 (fun x hx=>by rw[h x hx];rfl)
theorem JX(hk:k<l.length):Gu G (l.take (k+1))=Gu G (l.take k)++(if hasB G.n G.h l[k].id=true then[]else[l[k]]):=by
 unfold Gu;rw[List.take_add_one,List.getElem?_eq_getElem hk,List.filter_append];cases hh:hasB G.n G.h l[k].id<;>simp[hh]
theorem Qm(L:List Ab)(p:Nat)(hp:p<=L.length):(Ax L).take (p*10)=Ax (L.take p):=by
 have e:Ax L=Ax (L.take p)++Ax (L.drop p):=by rw[<-Jq,List.take_append_drop]
 have hl:(Ax (L.take p)).length=p*10:=by rw[Gv,List.length_take,Nat.min_eq_left hp]
 rw[e,List.take_append_of_le_length (by omega),List.take_of_length_le (by omega)]
theorem Fq{row:Option Nat}(h:w.grownBy w1 row)(hb:Below w1 w1 w2):w.grownBy w2 row:=
 ⟨hb.os.trans h.os,hb.tape.trans h.tape,hb.output.trans h.output,Nat.le_trans h.size hb.size,fun k hk hne=>(hb.block k (Nat.lt_of_lt_of_le hk h.size)).trans (h.block k hk hne)⟩
theorem As(h:w.grownBy w1 (some q))(i:Nat)(v:Value):w.grownBy (w1.setCell ⟨q,i,none⟩ v) (some q):=
 ⟨h.os,h.tape,h.output,by simpa[World.setCell]using h.size,fun k hk hne=>(Below.heap_setCell _ _ _ _ (fun(e:k=q)=>hne (by rw[e]))).trans (h.block k hk hne)⟩
structure Ou(B q co:Nat)(l:List Ab)(G:AJ)(w wr:World)(p k:Nat)(L:List Ab):Prop where
 pk:p<k
 kn:k<=l.length
 len:L.length=l.length
 own:AO wr B (.slice q L.length co) L
 fst:L.take p=Gu G (l.take k)
 rst:L.drop k=l.drop k
 gr:w.grownBy wr (some q)
theorem Ou.at(h:Ou B q co l G w wr p k L)(hk:k<l.length):L[k]'(by rw[h.len];exact hk)=l[k]:=by
 have h1:=congrArg (fun x=>x[0]?) h.rst;simp only[List.getElem?_drop,Nat.add_zero]at h1;rw[List.getElem?_eq_getElem (by rw[h.len];exact hk),List.getElem?_eq_getElem hk]at h1;exact Option.some.inj h1
theorem Ou.skip{w':World}(h:Ou B q co l G w wr p k L)(hk:k<l.length)(hg:hasB G.n G.h l[k].id=true)(hb:Below wr wr w'):Ou B q co l G w w' p (k+1) L:=
 ⟨by have:=h.pk;omega,hk,h.len,h.own.below hb,by rw[JX hk,hg,h.fst];simp,by rw[<-List.drop_drop,h.rst,List.drop_drop],Fq h.gr hb⟩
theorem Ou.keep(h:Ou B q co l G w wr p k L)(hk:k<l.length)(hg:hasB G.n G.h l[k].id=false)(ho:w2.ownsRow B 44 10 (.slice q L.length co) L.length (Ax (L.set p l[k])))(hgr:w.grownBy w2 (some q)):Ou B q co l G w w2 (p+1) (k+1) (L.set p l[k]):=
 ⟨by have:=h.pk;omega,hk,by rw[List.length_set];exact h.len,by unfold AO;rw[List.length_set];exact ho,by
   have pl:p<L.length:=(by have:=h.pk;rw[h.len];omega);rw[JX hk,hg,List.take_add_one,List.take_set_of_le nr,h.fst];simp[pl],by rw[List.drop_set_of_lt (by have:=h.pk;omega),<-List.drop_drop,h.rst,List.drop_drop],hgr⟩
theorem Si(B q co vb:Nat)(l:List Ab)(G:AJ)(w:World)(h:AO w B (.slice q l.length co) l)(hn:l.length<=1048576)(hv:w.cell? ⟨vb,0,none⟩=some (.slice G.a G.n G.k))(hl:vb<w.heap.size)(hvq:vb≠q)(hG:∀W,w.grownBy W (some q)->G.at W):
 Calls prog 129 #[.slice q l.length co,.func (.func 130) #[] #[.pointer vb]] w fun e w'=>e= .returned (.slice q (Gu G l).length co)/\AO w' B (.slice q (Gu G l).length co) (Gu G l)/\w.grownBy w' (some q):=by
 have g0:w.grownBy w (some q):=⟨rfl,rfl,rfl,Nat.le_refl _,fun _ _ _=>rfl⟩;have IXF:=hid (Tk B q co vb l G w h hn hv hl (hG w g0));have HO:=hid h;have HG:=hid hG;have HV:=hid hv;have cap:=(CZ h).1;have caM:=(CZ h).2;have G0:=hid g0;clear h hG hv g0;go_enter func129,ntmps129
 go_wp2_with fail
 refine IXF.out.mono ?_;rintro e w1 ⟨b1,hr⟩;have B1:=hid b1;clear IXF b1;rcases hr with⟨rfl,hall⟩|⟨i,hi,rfl,hno,hyes⟩
 ·have EK:Hid (Gu G l=l):=hid (MS hall);clear hall;go_wp2;go_ret;rw[EK.out];exact⟨rfl,HO.out.below B1,Fq G0 B1⟩
 ·have i1:¬(i:Int)= -1:=by omega
  have i2:((i:Int)== -1)=false:=beq_eq_false_iff_ne.2 i1;have wr1:IntKind.i64.wrap ((i:Int)+1)=(i:Int)+1:=by rw[IntKind.wrap_i64];omega
  have ST:Hid (Ou B q co l G w w1 i (i+1) l):=hid ⟨Nat.lt_succ_self _,hi,rfl,HO.out.below B1,by
   rw[JX hi,MS hno];rw[Az hi]at hyes;rw[hyes];simp,rfl,Fq G0 B1⟩
  clear hno hyes;go_wp2;go_loopw [5,6] (fun a b wr=>∃(p k:Nat) (L:List Ab),a= .int .i64 p/\b= .int .i64 k/\Hid (Ou B q co l G w wr p k L)) (fun _ b _=>l.length-(intOf b).toNat)
  case atStart=>exact⟨i,i+1,l,rfl,by first|rfl|go_num,ST⟩
  case round=>
   clear ST;obtain⟨p,k,L,rfl,rfl,DI⟩:=hrel;have pk:=DI.out.pk;have kn:=DI.out.kn;have len:=DI.out.len;by_cases hlt:k<l.length
   ·have j1:(k:Int)<(l.length:Int):=(by omega);have j0:(0:Int)<=(k:Int):=(by omega);have p0:(0:Int)<=(p:Int):=(by omega);have p1:(p:Int)<(l.length:Int):=(by omega);have hkL:k<L.length:=(by omega);have hpL:p<L.length:=(by omega);obtain⟨CC,ql,hBq,cur,hcur⟩:=AO.cells DI.out.own hkL;have ek:=DI.out.at hlt;rw[ek]at CC;obtain⟨o,ho⟩:∃o,o=l[k]:=⟨_,rfl⟩;rw[<-ho]at CC;have HK:=hid ho;have q0:wr.cell? ⟨q,k*10,none⟩=some (.int .i64 o.id):=CC.c0;have q1:wr.cell? ⟨q,k*10+1,none⟩=some (.int .i64 o.kind):=CC.c1;have q2:wr.cell? ⟨q,k*10+2,none⟩=some (.int .i64 o.up):=CC.c2;have q3:wr.cell? ⟨q,k*10+3,none⟩=some (.int .i64 o.b1):=CC.c3;have q4:wr.cell? ⟨q,k*10+4,none⟩=some (.slice o.c1.a o.c1.n o.c1.k):=CC.c4;have q5:wr.cell? ⟨q,k*10+5,none⟩=some (.string o.data):=CC.c5;have q6:wr.cell? ⟨q,k*10+6,none⟩=some (.slice o.jA.a o.jA.n o.jA.k):=CC.c6;have q7:wr.cell? ⟨q,k*10+7,none⟩=some (.slice o.own.a o.own.n o.own.k):=CC.c7;have q8:wr.cell? ⟨q,k*10+8,none⟩=some (.int .i64 o.b2):=CC.c8;have q9:wr.cell? ⟨q,k*10+9,none⟩=some (.slice o.c2.a o.c2.n o.c2.k):=CC.c9;have n1:No (.cells o 44):=⟨⟩;have BA:Below wr wr (wr.alloc n1):=Bf wr _;have gr:=Fq DI.out.gr BA;have vc:(wr.alloc n1).cell? ⟨vb,0,none⟩=some (.slice G.a G.n G.k):=(World.cell?_of_block (a:=⟨vb,0,none⟩) (gr.block vb hl (fun e=>hvq (Option.some.inj e)))).trans HV.out;have GA:=hid (Rj o vb 0 G _ vc (Nat.lt_of_lt_of_le hl gr.size) (HG _ gr));have BD:=hid BA;have AB:=hid (Ag.new wr n1);have OWA:=hid (DI.out.own.below BA);clear CC ek ho BA gr vc cur hcur;go_wp2_with fail
    refine GA.out.mono ?_;rintro e w2 ⟨rfl,b2⟩;have B2:=hid (Af BD b2);have A2:=hid (AB.out.below b2);clear b2 q0 q1 q2 q3 q4 q5 q6 q7 q8 q9 GA;cases hg:hasB G.n G.h o.id with
    |true=>
     have DN:=hid (DI.out.skip hlt (by rw[<-HK.out];exact hg) B2);clear hg;have wk1:IntKind.i64.wrap ((k:Int)+1)=(k:Int)+1:=(by rw[IntKind.wrap_i64];omega);go_wp2;go_roundw;case rel=>exact⟨p,k+1,L,rfl,by first|rfl|go_num,DN⟩
     case measure=>simp[intOf];omega
    |false=>
     obtain⟨x0,x1,x2,x3,x4,x5,x6,x7,x8,x9⟩:=A2.out.jE;have O2:=DI.out.own.below B2.out;obtain⟨CP,_,_,cur,hcur⟩:=AO.cells O2 hpL;obtain⟨o2,ho2⟩:∃o2,o2=L[p]:=⟨_,rfl⟩;rw[<-ho2]at CP;have y0:w2.cell? ⟨q,p*10,none⟩=some (.int .i64 o2.id):=CP.c0;have y1:w2.cell? ⟨q,p*10+1,none⟩=some (.int .i64 o2.kind):=CP.c1;have y2:w2.cell? ⟨q,p*10+2,none⟩=some (.int .i64 o2.up):=CP.c2;have y3:w2.cell? ⟨q,p*10+3,none⟩=some (.int .i64 o2.b1):=CP.c3;have y4:w2.cell? ⟨q,p*10+4,none⟩=some (.slice o2.c1.a o2.c1.n o2.c1.k):=CP.c4;have y5:w2.cell? ⟨q,p*10+5,none⟩=some (.string o2.data):=CP.c5;have y6:w2.cell? ⟨q,p*10+6,none⟩=some (.slice o2.jA.a o2.jA.n o2.jA.k):=CP.c6;have y7:w2.cell? ⟨q,p*10+7,none⟩=some (.slice o2.own.a o2.own.n o2.own.k):=CP.c7;have y8:w2.cell? ⟨q,p*10+8,none⟩=some (.int .i64 o2.b2):=CP.c8;have y9:w2.cell? ⟨q,p*10+9,none⟩=some (.slice o2.c2.a o2.c2.n o2.c2.k):=CP.c9;have gf:=hcur.jC;have OS:=hid (AO.store O2 hpL o);have GR:=hid (Fq DI.out.gr B2);have HGF:=hid hg;clear CP ho2 hg O2;have wk1:IntKind.i64.wrap ((k:Int)+1)=(k:Int)+1:=(by rw[IntKind.wrap_i64];omega);have wp1:IntKind.i64.wrap ((p:Int)+1)=(p:Int)+1:=(by rw[IntKind.wrap_i64];omega);go_wp2;go_roundw;case rel=>
      refine⟨p+1,k+1,L.set p o,by first|rfl|go_num,by first|rfl|go_num,hid ?_⟩;have hk':=HK.out;subst hk';exact DI.out.keep hlt HGF OS (As (As (As (As (As (As (As (As (As (As GR _ _) _ _) _ _) _ _) _ _) _ _) _ _) _ _) _ _) _ _)
     case measure=>simp[intOf];omega
   ·have ek:k=l.length:=(by omega);have j1:¬(k:Int)<(l.length:Int):=(by omega);have pL:p<=L.length:=(by omega);have FS:=hid DI.out.fst;obtain⟨vs,hcl⟩:∃vs,∀ty,(Builtin.clear_ #[25] ty #[.slice (some ⟨q,p*10,none⟩) (l.length-p) (co-p)]).run prog wr= .ok (.tuple #[]) (wr.setCells q (p*10) vs):=by
     obtain⟨b,off,e,hlt',hc⟩:=Bp.own DI.out.own (by omega);cases e;have cc:∀j,j<(l.length-p)*10->(wr.cell? ⟨q,p*10+j,none⟩).isSome=true:=fun j hj=>by
      have hjl:p*10+j<(Ax L).length:=(by rw[Gv,len];omega);have:=hc (p*10+j) _ (List.getElem?_eq_getElem hjl);rw[Nat.zero_add]at this;rw[this];rfl
     have ff:∀j,j<(l.length-p)*10->wr.frozen? ⟨q,p*10+j,none⟩=false:=fun j hj=>by
      obtain⟨_,_,_,cur,hcur⟩:=AO.cells DI.out.own (i:=0) (by omega);exact hcur.jC _
     exact Ry wr q (p*10) (l.length-p) (co-p) (by omega) cc ff
    obtain⟨xs',h2,h3,g2⟩:=Sv vs (p*10) wr _ DI.out.own;have OW:Hid (AO (wr.setCells q (p*10) vs) B (.slice q (Gu G l).length co) (Gu G l)):=hid (by
     have ef:L.take p=Gu G l:=(by rw[FS.out,ek,List.take_of_length_le nr]);have el:(Gu G l).length=p:=(by rw[<-ef,List.length_take,Nat.min_eq_left pL]);unfold AO;rw[el];exact Zp h2 pL (by rw[h3,Qm L p pL,ef]))
    have EL:Hid ((Gu G l).length=p):=hid (by
     have ef:L.take p=Gu G l:=(by rw[FS.out,ek,List.take_of_length_le nr]);rw[<-ef,List.length_take,Nat.min_eq_left pL])
    have GR:Hid (w.grownBy (wr.setCells q (p*10) vs) (some q)):=hid ⟨g2.os.trans DI.out.gr.os,g2.tape.trans DI.out.gr.tape,g2.output.trans DI.out.gr.output,Nat.le_trans DI.out.gr.size g2.size,fun k hk hne=>(g2.block k (Nat.lt_of_lt_of_le hk DI.out.gr.size) hne).trans (DI.out.gr.block k hk hne)⟩;have p1:(p:Int)<=(l.length:Int):=(by omega);have p2:p<=l.length:=(by omega);have p3:p<=co:=(by omega);have p4:(0:Int)<=(p:Int):=(by omega);have p5:¬co=p:=(by omega);have p6:(p:Int)<=(co:Int):=(by omega);have p7:(l.length:Int)<=(co:Int):=(by omega);clear h2 h3 g2;go_wp2;go_ret;rw[EL.out]at OW ⊢;exact⟨rfl,OW,GR⟩
theorem Kt(n:Int)(used:Bool)(w:World):
 Calls prog 85 #[.int .i64 n,.bool used] w fun e w'=>e= .returned (.bool (Mt n used))/\w'=w:=by
 cases used with
 |false=>
  go_enter func85,ntmps85
  go_wp2;go_ret;exact⟨Ah (by simp[Mt]),rfl⟩
 |true=>
  go_enter func85,ntmps85
  go_wp2
  ·go_ret;exact⟨Ah (by simp only[Mt,if_true];exact(Ks ‹_›).symm),rfl⟩
  ·go_ret;exact⟨Ah (by simp only[Mt,if_true];exact(Nt ‹_›).symm),rfl⟩
theorem Ti(kind:Int)(w:World):
 Calls prog 82 #[.int .i64 kind] w fun e w'=>e= .returned (.tuple #[.agg #[.bool (aO kind),.bool (aQ kind),.bool (Sa kind),.bool (Qc kind),.bool (LV kind),.bool (Jl kind)],.bool (aM kind)])/\Below w w w':=by
 by_cases h1:kind=1
 ·subst h1;go_enter func82,ntmps82
  go_wp2;refine bodyPost_ret (v:= .tuple #[.agg #[.bool false,.bool false,.bool false,.bool false,.bool false,.bool false],.bool true]) (by simp[results,Tryz.results82,go_sem]) rfl ⟨by rfl,Bf w _⟩
 by_cases h2:kind=2
 ·subst h2;go_enter func82,ntmps82
  go_wp2;refine bodyPost_ret (v:= .tuple #[.agg #[.bool true,.bool false,.bool false,.bool false,.bool true,.bool false],.bool true]) (by simp[results,Tryz.results82,go_sem]) rfl ⟨by rfl,Bf w _⟩
 by_cases h3:kind=3
 ·subst h3;go_enter func82,ntmps82
  go_wp2;refine bodyPost_ret (v:= .tuple #[.agg #[.bool true,.bool false,.bool false,.bool false,.bool true,.bool false],.bool true]) (by simp[results,Tryz.results82,go_sem]) rfl ⟨by rfl,Bf w _⟩
 by_cases h4:kind=4
 ·subst h4;go_enter func82,ntmps82
  go_wp2;refine bodyPost_ret (v:= .tuple #[.agg #[.bool true,.bool false,.bool false,.bool false,.bool true,.bool false],.bool true]) (by simp[results,Tryz.results82,go_sem]) rfl ⟨by rfl,Bf w _⟩
 by_cases h5:kind=5
 ·subst h5;go_enter func82,ntmps82
  go_wp2;refine bodyPost_ret (v:= .tuple #[.agg #[.bool true,.bool false,.bool true,.bool false,.bool true,.bool true],.bool true]) (by simp[results,Tryz.results82,go_sem]) rfl ⟨by rfl,Bf w _⟩
 by_cases h6:kind=6
 ·subst h6;go_enter func82,ntmps82
  go_wp2;refine bodyPost_ret (v:= .tuple #[.agg #[.bool true,.bool false,.bool false,.bool true,.bool false,.bool false],.bool true]) (by simp[results,Tryz.results82,go_sem]) rfl ⟨by rfl,Bf w _⟩
 by_cases h7:kind=7
 ·subst h7;go_enter func82,ntmps82
  go_wp2;refine bodyPost_ret (v:= .tuple #[.agg #[.bool true,.bool false,.bool false,.bool false,.bool false,.bool false],.bool true]) (by simp[results,Tryz.results82,go_sem]) rfl ⟨by rfl,Bf w _⟩
 by_cases h8:kind=8
 ·subst h8;go_enter func82,ntmps82
  go_wp2;refine bodyPost_ret (v:= .tuple #[.agg #[.bool true,.bool true,.bool false,.bool false,.bool false,.bool false],.bool true]) (by simp[results,Tryz.results82,go_sem]) rfl ⟨by rfl,Bf w _⟩
 by_cases h9:kind=9
 ·subst h9;go_enter func82,ntmps82
  go_wp2;refine bodyPost_ret (v:= .tuple #[.agg #[.bool true,.bool false,.bool false,.bool true,.bool false,.bool false],.bool true]) (by simp[results,Tryz.results82,go_sem]) rfl ⟨by rfl,Bf w _⟩
 by_cases h10:kind=10
 ·subst h10;go_enter func82,ntmps82
  go_wp2;refine bodyPost_ret (v:= .tuple #[.agg #[.bool true,.bool false,.bool false,.bool false,.bool false,.bool false],.bool true]) (by simp[results,Tryz.results82,go_sem]) rfl ⟨by rfl,Bf w _⟩
 by_cases h11:kind=11
 ·subst h11;go_enter func82,ntmps82
  go_wp2;refine bodyPost_ret (v:= .tuple #[.agg #[.bool true,.bool false,.bool false,.bool false,.bool false,.bool false],.bool true]) (by simp[results,Tryz.results82,go_sem]) rfl ⟨by rfl,Bf w _⟩
 by_cases h12:kind=12
 ·subst h12;go_enter func82,ntmps82
  go_wp2;refine bodyPost_ret (v:= .tuple #[.agg #[.bool false,.bool false,.bool false,.bool false,.bool true,.bool false],.bool true]) (by simp[results,Tryz.results82,go_sem]) rfl ⟨by rfl,Bf w _⟩
 by_cases h13:kind=13
 ·subst h13;go_enter func82,ntmps82
  go_wp2;refine bodyPost_ret (v:= .tuple #[.agg #[.bool true,.bool false,.bool false,.bool false,.bool false,.bool false],.bool true]) (by simp[results,Tryz.results82,go_sem]) rfl ⟨by rfl,Bf w _⟩
 by_cases h14:kind=14
 ·subst h14;go_enter func82,ntmps82
  go_wp2;refine bodyPost_ret (v:= .tuple #[.agg #[.bool false,.bool false,.bool true,.bool false,.bool false,.bool false],.bool true]) (by simp[results,Tryz.results82,go_sem]) rfl ⟨by rfl,Bf w _⟩
 by_cases h15:kind=15
 ·subst h15;go_enter func82,ntmps82
  go_wp2;refine bodyPost_ret (v:= .tuple #[.agg #[.bool true,.bool false,.bool false,.bool false,.bool false,.bool false],.bool true]) (by simp[results,Tryz.results82,go_sem]) rfl ⟨by rfl,Bf w _⟩
 have g1:(kind==1)=false:=by simpa using h1
 have g2:(kind==2)=false:=by simpa using h2
 have g3:(kind==3)=false:=by simpa using h3
 have g4:(kind==4)=false:=by simpa using h4
 have g5:(kind==5)=false:=by simpa using h5
 have g6:(kind==6)=false:=by simpa using h6
 have g7:(kind==7)=false:=by simpa using h7
 have g8:(kind==8)=false:=by simpa using h8
 have g9:(kind==9)=false:=by simpa using h9
 have g10:(kind==10)=false:=by simpa using h10
 have g11:(kind==11)=false:=by simpa using h11
 have g12:(kind==12)=false:=by simpa using h12
 have g13:(kind==13)=false:=by simpa using h13
 have g14:(kind==14)=false:=by simpa using h14
 have g15:(kind==15)=false:=by simpa using h15
 clear h1 h2 h3 h4 h5 h6 h7 h8 h9 h10 h11 h12 h13 h14 h15;go_enter func82,ntmps82
 go_wp2;refine bodyPost_ret (v:= .tuple #[.agg #[.bool false,.bool false,.bool false,.bool false,.bool false,.bool false],.bool false]) (by simp[results,Tryz.results82,go_sem]) rfl ⟨by simp[aO,aQ,Sa,Qc,LV,Jl,aM,g1,g2,g3,g4,g5,g6,g7,g8,g9,g10,g11,g12,g13,g14,g15],Bf w _⟩
theorem Ag.six{W:World}{P t:Nat}{x0 x1 x2 x3 x4 x5:Value}(h:Ag W P (.cells #[x0,x1,x2,x3,x4,x5] t)):W.cell? ⟨P,0,none⟩=some x0/\W.cell? ⟨P,1,none⟩=some x1/\W.cell? ⟨P,2,none⟩=some x2/\W.cell? ⟨P,3,none⟩=some x3/\W.cell? ⟨P,4,none⟩=some x4/\W.cell? ⟨P,5,none⟩=some x5:=by
 unfold Ag at h;simp[World.cell?,h]
theorem Wk(th kind id to' cat:Int)(d:ByteArray)(bl:Int)(al:Option Addr)(nl kl:Nat)(bc:Int)(ac:Option Addr)(nc kc:Nat)(used:Bool)(w:World):
 Calls prog 86 #[.agg #[th,.int .i64 kind,.int .i64 id,.int .i64 to',cat,.string d,.int .i64 bl,.slice al nl kl,.int .i64 bc,.slice ac nc kc],.bool used] w fun e w'=>e= .returned (.bool (M8 kind cat used))/\Below w w w':=by
 have hb0:=Bf w (.cells #[th,.int .i64 kind,.int .i64 id,.int .i64 to',cat,.string d,.int .i64 bl,.slice al nl kl,.int .i64 bc,.slice ac nc kc] 32);cases t:(cat==0)with
 |true=>
  go_enter func86,ntmps86
  go_wp2;go_ret;exact⟨Ah (by simp[M8,t]),hb0⟩
 |false=>
  cases used with
  |true=>
   go_enter func86,ntmps86
   go_wp2_with(go_at_call 74;refine(Ir _ _).mono ?_;rintro e w' ⟨rfl,rfl⟩)
   go_ret;exact⟨Ah (by simp[M8,t]),hb0⟩
  |false=>
   go_enter func86,ntmps86
   go_wp2;go_ret;exact⟨Ah (by simp[M8,t]),hb0⟩
section
variable {P:Program}{ops:Array Oper}{Q:Exit->Act->World->Prop}{a:Act}{w:World}
def Ba(P:Program)(ops:Array Oper)(Q:Exit->Act->World->Prop)(i:Nat)(a:Act)(w:World):Prop:=wpOps P ops Q (List.range' i (ops.size-i)) a w
theorem Ba.region{id:Nat}(h:Ba P ops Q 0 a w):(Code.region id ops false).wp P Q a w:=by
 refine wp_region ?_;unfold Ba at h;rw[Nat.sub_zero,<-List.range_eq_range']at h;exact h
theorem Tn{i n:Nat}(h:i<n):List.range' i (n-i)=i::List.range' (i+1) (n-(i+1)):=by
 obtain⟨k,hk⟩:∃k,n-i=k+1:=⟨n-i-1,by omega⟩;have:n-(i+1)=k:=by omega
 rw[hk,this,List.range'_succ]
theorem Ba.step{i:Nat}{o:Oper}(ho:ops[i]? =some o)(h:∀K':Act->World->Prop,Hid (∀a w,Ba P ops Q (i+1) a w->K' a w)->if Region.wanted o (yielded ops a.tmps)=true then Oper.wp P o a w K' Q else K' (a.put o.dst undef) w):Ba P ops Q i a w:=by
 have hlt:i<ops.size:=(Array.getElem?_eq_some_iff.1 ho).1;unfold Ba;rw[Tn hlt];unfold wpOps;rw[ho];dsimp only;have:=h (wpOps P ops Q (List.range' (i+1) (ops.size-(i+1)))) (fun a w h=>h);split
 ·rename_i hw;rw[if_pos hw]at this;exact .inl this
 ·rename_i hw;rw[if_neg hw]at this;exact this
theorem Ba.take{i d:Nat}{o:Oper}(v:Value)(ho:ops[i]? =some o)(hd:o.dst=some d)(hw:Region.wanted o (yielded ops a.tmps)=true)(hv:(execOp a.eval o).run P w= .ok (.value v) w)
 (h:Ba P ops Q (i+1) (a.put (some d) v) w):Ba P ops Q i a w:=
 Ba.step ho fun K' hK=>by
  rw[if_pos hw];unfold Oper.wp;rw[hv];simp only[Oper.upon];rw[hd];exact hK.out _ _ h
theorem Ba.done{i:Nat}(hi:ops.size<=i)(h:Q .normal a w):Ba P ops Q i a w:=by
 unfold Ba;have:ops.size-i=0:=by omega
 rw[this];exact h
def Value.isUndef:Value->Bool
 | .tuple xs=>xs.size==0
 |_=>false
def idle(ops:Array Oper)(tmps:Array Value)(k:Nat):Bool:=match ops[k]? with
 |some o=> !(Region.wanted o (yielded ops tmps))&&match o.dst with
  |some d=>match tmps[d]? with
   |some v=>Value.isUndef v
   |none=>false
  |none=>true
 |none=>false
theorem Wa{d:Nat}(h:(match a.tmps[d]? with|some v=>Value.isUndef v|none=>false)=true):a.put (some d) undef=a:=by
 cases hv:a.tmps[d]? with
 |none=>rw[hv]at h;simp at h
 |some v=>
  rw[hv]at h;dsimp only at h;have hu:v=undef:=by
   cases v with
   |tuple xs=>
    have hs:xs.size=0:=(by simpa[Value.isUndef]using h);have:xs=#[]:=Array.eq_empty_of_size_eq_zero hs;rw[this];rfl
   |_=>simp[Value.isUndef]at h
  obtain⟨hlt,he⟩:=Array.getElem?_eq_some_iff.1 hv;cases a with
  |mk tmps defers=>
   simp only[Act.put];congr;apply Array.ext
   ·simp
   ·intro i h1 h2;by_cases e:d=i
    ·subst e;rw[Array.getElem_setIfInBounds_self];rw[<-hu];exact he.symm
    ·rw[Array.getElem_setIfInBounds_ne _ e]
theorem Ba.pass{j:Nat}(m:Nat):∀{i:Nat},i+m=j->(List.range' i m).all (idle ops a.tmps)=true->Ba P ops Q j a w->Ba P ops Q i a w:=by
 induction m with
 |zero=>intro i hi _ h;have e:i=j:=by omega
        rw[e];exact h
 |succ m ih=>
  intro i hi hall h;rw[List.range'_succ,List.all_cons,Bool.and_eq_true]at hall;obtain⟨h1,h2⟩:=hall;have hrest:=ih (i:=i+1) (by omega) h2 h;unfold idle at h1;cases ho:ops[i]? with
  |none=>rw[ho]at h1;simp at h1
  |some o=>
   rw[ho]at h1;dsimp only at h1;rw[Bool.and_eq_true]at h1;have hw:Region.wanted o (yielded ops a.tmps)=false:=(by simpa using h1.1);refine Ba.step ho fun K' hK=>?_;rw[if_neg (by rw[hw];simp)];cases hd:o.dst with
   |none=>exact hK.out _ _ hrest
   |some d=>
    have h3:=h1.2;rw[hd]at h3;dsimp only at h3;rw[Wa h3];exact hK.out _ _ hrest
end
end Go.Proofs.YteoihknaljgocaaGreatDoor
