import Derived.Test.YtmikapeeflcbfaaGreatDoorZ25
set_option maxRecDepth 100000
set_option maxHeartbeats 16000000
namespace Go.Proofs.YtmikapeeflcbfaaGreatDoor
open Go Go.RowKit Go.Deep Go.Maps Go.BigFrame Go.Shelf Go.Proofs.Tryz
def FH(G:Av)(l:List Ab):List Ab:=l.filter (fun o=> !hasB G.n G.h o.id)
theorem LZ{G:Av}{l:List Ab}(h:∀x∈l,hasB G.n G.h x.id=false):FH G l=l:=List.filter_eq_self.2 (fun x hx=>by rw[h x hx];rfl)
theorem Jd{G:Av}{l:List Ab}{k:Nat}(hk:k<l.length):FH G (l.take (k+1))=FH G (l.take k)++(if hasB G.n G.h l[k].id=true then[]else[l[k]]):=by
 unfold FH;rw[List.take_add_one,List.getElem?_eq_getElem hk,List.filter_append];cases hh:hasB G.n G.h l[k].id<;>simp[hh]
theorem QK(L:List Ab)(p:Nat)(hp:p<=L.length):(Aw L).take (p*10)=Aw (L.take p):=by
 have e:Aw L=Aw (L.take p)++Aw (L.drop p):=by rw[<-Ig,List.take_append_drop]
 have hl:(Aw (L.take p)).length=p*10:=by rw[FM,List.length_take,Nat.min_eq_left hp]
 rw[e,List.take_append_of_le_length (by omega),List.take_of_length_le (by omega)]
theorem En{w w1 w2:World}{row:Option Nat}(h:w.grownBy w1 row)(hb:Below w1 w1 w2):w.grownBy w2 row:=
 ⟨hb.os.trans h.os,hb.tape.trans h.tape,hb.output.trans h.output,Nat.le_trans h.size hb.size,fun k hk hne=>(hb.block k (Nat.lt_of_lt_of_le hk h.size)).trans (h.block k hk hne)⟩
theorem Aq{w w1:World}{q:Nat}(h:w.grownBy w1 (some q))(i:Nat)(v:Value):w.grownBy (w1.setCell ⟨q,i,none⟩ v) (some q):=
 ⟨h.os,h.tape,h.output,by simpa[World.setCell]using h.size,fun k hk hne=>(Below.heap_setCell _ _ _ _ (fun(e:k=q)=>hne (by rw[e]))).trans (h.block k hk hne)⟩
structure OF(B q co:Nat)(l:List Ab)(G:Av)(w wr:World)(p k:Nat)(L:List Ab):Prop where
 pk:p<k
 kn:k<=l.length
 len:L.length=l.length
 own:AI wr B (.slice (some ⟨q,0,none⟩) L.length co) L
 fst:L.take p=FH G (l.take k)
 rst:L.drop k=l.drop k
 gr:w.grownBy wr (some q)
theorem OF.at{B q co:Nat}{l L:List Ab}{G:Av}{w wr:World}{p k:Nat}(h:OF B q co l G w wr p k L)(hk:k<l.length):L[k]'(by rw[h.len];exact hk)=l[k]:=by
 have h1:=congrArg (fun x=>x[0]?) h.rst;simp only[List.getElem?_drop,Nat.add_zero]at h1;rw[List.getElem?_eq_getElem (by rw[h.len];exact hk),List.getElem?_eq_getElem hk]at h1;exact Option.some.inj h1
theorem OF.skip{B q co:Nat}{l L:List Ab}{G:Av}{w wr w':World}{p k:Nat}(h:OF B q co l G w wr p k L)(hk:k<l.length)(hg:hasB G.n G.h l[k].id=true)(hb:Below wr wr w'):OF B q co l G w w' p (k+1) L:=
 ⟨by have:=h.pk;omega,hk,h.len,h.own.below hb,by rw[Jd hk,hg,h.fst];simp,by rw[<-List.drop_drop,h.rst,List.drop_drop],En h.gr hb⟩
theorem OF.keep{B q co:Nat}{l L:List Ab}{G:Av}{w wr w2:World}{p k:Nat}(h:OF B q co l G w wr p k L)(hk:k<l.length)(hg:hasB G.n G.h l[k].id=false)(ho:w2.ownsRow B 88 10 (.slice (some ⟨q,0,none⟩) L.length co) L.length (Aw (L.set p l[k])))(hgr:w.grownBy w2 (some q)):OF B q co l G w w2 (p+1) (k+1) (L.set p l[k]):=
 ⟨by have:=h.pk;omega,hk,by rw[List.length_set];exact h.len,by unfold AI;rw[List.length_set];exact ho,by
   have pl:p<L.length:=(by have:=h.pk;rw[h.len];omega);rw[Jd hk,hg,List.take_add_one,List.take_set_of_le (Nat.le_refl _),h.fst];simp[pl],by rw[List.drop_set_of_lt (by have:=h.pk;omega),<-List.drop_drop,h.rst,List.drop_drop],hgr⟩
theorem Se(B q co vb:Nat)(l:List Ab)(G:Av)(w:World)(h:AI w B (.slice (some ⟨q,0,none⟩) l.length co) l)(hn:l.length<=1048576)(hv:w.cell? ⟨vb,0,none⟩=some (.slice G.a G.n G.k))(hl:vb<w.heap.size)(hvq:vb≠q)(hG:∀W,w.grownBy W (some q)->G.at W):
 Calls prog 140 #[.slice (some ⟨q,0,none⟩) l.length co,.func (.func 141) #[] #[.pointer (some ⟨vb,0,none⟩)]] w fun e w'=>e= .returned (.slice (some ⟨q,0,none⟩) (FH G l).length co)/\AI w' B (.slice (some ⟨q,0,none⟩) (FH G l).length co) (FH G l)/\w.grownBy w' (some q):=by
 have g0:w.grownBy w (some q):=⟨rfl,rfl,rfl,Nat.le_refl _,fun _ _ _=>rfl⟩;have IXF:=hid (Tg B q co vb l G w h hn hv hl (hG w g0));have HO:=hid h;have HG:=hid hG;have HV:=hid hv;have cap:=(Da h).1;have caM:=(Da h).2;have G0:=hid g0;clear h hG hv g0;go_enter func140,ntmps140
 go_wp2_with fail
 refine IXF.out.mono ?_;rintro e w1 ⟨b1,hr⟩;have B1:=hid b1;clear IXF b1;rcases hr with⟨rfl,hall⟩|⟨i,hi,rfl,hno,hyes⟩
 ·have EK:Hid (FH G l=l):=hid (LZ hall);clear hall;go_wp2;go_ret;rw[EK.out];exact⟨rfl,HO.out.below B1,En G0 B1⟩
 ·have i1:¬(i:Int)= -1:=by omega
  have i2:((i:Int)== -1)=false:=beq_eq_false_iff_ne.2 i1;have wr1:IntKind.i64.wrap ((i:Int)+1)=(i:Int)+1:=by rw[IntKind.wrap_i64];omega
  have ST:Hid (OF B q co l G w w1 i (i+1) l):=hid ⟨Nat.lt_succ_self _,hi,rfl,HO.out.below B1,by
   rw[Jd hi,LZ hno];rw[AM hi]at hyes;rw[hyes];simp,rfl,En G0 B1⟩
  clear hno hyes;go_wp2;go_loopw [5,6] (fun a b wr=>∃(p k:Nat) (L:List Ab),a= .int .i64 p/\b= .int .i64 k/\Hid (OF B q co l G w wr p k L)) (fun _ b _=>l.length-(intOf b).toNat)
  case atStart=>exact⟨i,i+1,l,rfl,by first|rfl|go_num,ST⟩
  case round=>
   clear ST;obtain⟨p,k,L,rfl,rfl,DI⟩:=hrel;have pk:=DI.out.pk;have kn:=DI.out.kn;have len:=DI.out.len;by_cases hlt:k<l.length
   ·have j1:(k:Int)<(l.length:Int):=(by omega);have j0:(0:Int)<=(k:Int):=(by omega);have p0:(0:Int)<=(p:Int):=(by omega);have p1:(p:Int)<(l.length:Int):=(by omega);have hkL:k<L.length:=(by omega);have hpL:p<L.length:=(by omega);obtain⟨CC,ql,hBq,cur,hcur⟩:=AI.cells DI.out.own hkL;have ek:=DI.out.at hlt;rw[ek]at CC;obtain⟨o,ho⟩:∃o,o=l[k]:=⟨_,rfl⟩;rw[<-ho]at CC;have HK:=hid ho;have q0:wr.cell? ⟨q,k*10,none⟩=some (.int .i64 o.id):=CC.c0;have q1:wr.cell? ⟨q,k*10+1,none⟩=some (.int .i64 o.kind):=CC.c1;have q2:wr.cell? ⟨q,k*10+2,none⟩=some (.int .i64 o.up):=CC.c2;have q3:wr.cell? ⟨q,k*10+3,none⟩=some (.int .i64 o.b1):=CC.c3;have q4:wr.cell? ⟨q,k*10+4,none⟩=some (.slice o.c1.a o.c1.n o.c1.k):=CC.c4;have q5:wr.cell? ⟨q,k*10+5,none⟩=some (.string o.data):=CC.c5;have q6:wr.cell? ⟨q,k*10+6,none⟩=some (.slice o.jA.a o.jA.n o.jA.k):=CC.c6;have q7:wr.cell? ⟨q,k*10+7,none⟩=some (.slice o.own.a o.own.n o.own.k):=CC.c7;have q8:wr.cell? ⟨q,k*10+8,none⟩=some (.int .i64 o.b2):=CC.c8;have q9:wr.cell? ⟨q,k*10+9,none⟩=some (.slice o.c2.a o.c2.n o.c2.k):=CC.c9;have n1:No (.cells #[o.id,o.kind,o.up,o.b1,.slice o.c1.a o.c1.n o.c1.k,.string o.data,.slice o.jA.a o.jA.n o.jA.k,.slice o.own.a o.own.n o.own.k,o.b2,.slice o.c2.a o.c2.n o.c2.k] 88):=⟨⟩;have BA:Below wr wr (wr.alloc n1):=(Below.refl _ wr).alloc (Nat.le_refl _) _;have gr:=En DI.out.gr BA;have vc:(wr.alloc n1).cell? ⟨vb,0,none⟩=some (.slice G.a G.n G.k):=(World.cell?_of_block (a:=⟨vb,0,none⟩) (gr.block vb hl (fun e=>hvq (Option.some.inj e)))).trans HV.out;have GA:=hid (Sn o vb 0 G _ vc (Nat.lt_of_lt_of_le hl gr.size) (HG _ gr));have BD:=hid BA;have AB:=hid (Ah.new wr n1);have OWA:=hid (DI.out.own.below BA);clear CC ek ho BA gr vc cur hcur;go_wp2_with fail
    refine GA.out.mono ?_;rintro e w2 ⟨rfl,b2⟩;have B2:=hid (Ae BD b2);have A2:=hid (AB.out.below b2);clear b2 q0 q1 q2 q3 q4 q5 q6 q7 q8 q9 GA;cases hg:hasB G.n G.h o.id with
    |true=>
     have DN:=hid (DI.out.skip hlt (by rw[<-HK.out];exact hg) B2);clear hg;have wk1:IntKind.i64.wrap ((k:Int)+1)=(k:Int)+1:=(by rw[IntKind.wrap_i64];omega);go_wp2;go_roundw;case rel=>exact⟨p,k+1,L,rfl,by first|rfl|go_num,DN⟩
     case measure=>simp[intOf];omega
    |false=>
     obtain⟨x0,x1,x2,x3,x4,x5,x6,x7,x8,x9⟩:=A2.out.jE;have O2:=DI.out.own.below B2.out;obtain⟨CP,_,_,cur,hcur⟩:=AI.cells O2 hpL;obtain⟨o2,ho2⟩:∃o2,o2=L[p]:=⟨_,rfl⟩;rw[<-ho2]at CP;have y0:w2.cell? ⟨q,p*10,none⟩=some (.int .i64 o2.id):=CP.c0;have y1:w2.cell? ⟨q,p*10+1,none⟩=some (.int .i64 o2.kind):=CP.c1;have y2:w2.cell? ⟨q,p*10+2,none⟩=some (.int .i64 o2.up):=CP.c2;have y3:w2.cell? ⟨q,p*10+3,none⟩=some (.int .i64 o2.b1):=CP.c3;have y4:w2.cell? ⟨q,p*10+4,none⟩=some (.slice o2.c1.a o2.c1.n o2.c1.k):=CP.c4;have y5:w2.cell? ⟨q,p*10+5,none⟩=some (.string o2.data):=CP.c5;have y6:w2.cell? ⟨q,p*10+6,none⟩=some (.slice o2.jA.a o2.jA.n o2.jA.k):=CP.c6;have y7:w2.cell? ⟨q,p*10+7,none⟩=some (.slice o2.own.a o2.own.n o2.own.k):=CP.c7;have y8:w2.cell? ⟨q,p*10+8,none⟩=some (.int .i64 o2.b2):=CP.c8;have y9:w2.cell? ⟨q,p*10+9,none⟩=some (.slice o2.c2.a o2.c2.n o2.c2.k):=CP.c9;have gf:=hcur.jC;have OS:=hid (AI.store O2 hpL o);have GR:=hid (En DI.out.gr B2);have HGF:=hid hg;clear CP ho2 hg O2;have wk1:IntKind.i64.wrap ((k:Int)+1)=(k:Int)+1:=(by rw[IntKind.wrap_i64];omega);have wp1:IntKind.i64.wrap ((p:Int)+1)=(p:Int)+1:=(by rw[IntKind.wrap_i64];omega);go_wp2;go_roundw;case rel=>
      refine⟨p+1,k+1,L.set p o,by first|rfl|go_num,by first|rfl|go_num,hid ?_⟩;have hk':=HK.out;subst hk';exact DI.out.keep hlt HGF OS (Aq (Aq (Aq (Aq (Aq (Aq (Aq (Aq (Aq (Aq GR _ _) _ _) _ _) _ _) _ _) _ _) _ _) _ _) _ _) _ _)
     case measure=>simp[intOf];omega
   ·have ek:k=l.length:=(by omega);have j1:¬(k:Int)<(l.length:Int):=(by omega);have pL:p<=L.length:=(by omega);have FS:=hid DI.out.fst;obtain⟨vs,hcl⟩:∃vs,∀ty,(Builtin.clear_ #[34] ty #[.slice (some ⟨q,p*10,none⟩) (l.length-p) (co-p)]).run prog wr= .ok (.tuple #[]) (wr.setCells q (p*10) vs):=by
     obtain⟨b,off,e,hlt',hc⟩:=Bj.own DI.out.own (by omega);cases e;have cc:∀j,j<(l.length-p)*10->(wr.cell? ⟨q,p*10+j,none⟩).isSome=true:=fun j hj=>by
      have hjl:p*10+j<(Aw L).length:=(by rw[FM,len];omega);have:=hc (p*10+j) _ (List.getElem?_eq_getElem hjl);rw[Nat.zero_add]at this;rw[this];rfl
     have ff:∀j,j<(l.length-p)*10->wr.frozen? ⟨q,p*10+j,none⟩=false:=fun j hj=>by
      obtain⟨_,_,_,cur,hcur⟩:=AI.cells DI.out.own (i:=0) (by omega);exact hcur.jC _
     exact Rz wr q (p*10) (l.length-p) (co-p) (by omega) cc ff
    obtain⟨xs',h2,h3,g2⟩:=Sp vs (p*10) wr _ DI.out.own;have OW:Hid (AI (wr.setCells q (p*10) vs) B (.slice (some ⟨q,0,none⟩) (FH G l).length co) (FH G l)):=hid (by
     have ef:L.take p=FH G l:=(by rw[FS.out,ek,List.take_of_length_le (Nat.le_refl _)]);have el:(FH G l).length=p:=(by rw[<-ef,List.length_take,Nat.min_eq_left pL]);unfold AI;rw[el];exact YB h2 pL (by rw[h3,QK L p pL,ef]))
    have EL:Hid ((FH G l).length=p):=hid (by
     have ef:L.take p=FH G l:=(by rw[FS.out,ek,List.take_of_length_le (Nat.le_refl _)]);rw[<-ef,List.length_take,Nat.min_eq_left pL])
    have GR:Hid (w.grownBy (wr.setCells q (p*10) vs) (some q)):=hid ⟨g2.os.trans DI.out.gr.os,g2.tape.trans DI.out.gr.tape,g2.output.trans DI.out.gr.output,Nat.le_trans DI.out.gr.size g2.size,fun k hk hne=>(g2.block k (Nat.lt_of_lt_of_le hk DI.out.gr.size) hne).trans (DI.out.gr.block k hk hne)⟩;have p1:(p:Int)<=(l.length:Int):=(by omega);have p2:p<=l.length:=(by omega);have p3:p<=co:=(by omega);have p4:(0:Int)<=(p:Int):=(by omega);have p5:¬co=p:=(by omega);have p6:(p:Int)<=(co:Int):=(by omega);have p7:(l.length:Int)<=(co:Int):=(by omega);clear h2 h3 g2;go_wp2;go_ret;rw[EL.out]at OW ⊢;exact⟨rfl,OW,GR⟩
def KP(w:World)(P:Nat):Prop:=∃(ga qa:Option Addr) (n m ca co:Nat),w.cell? ⟨P,10,none⟩=some (.slice ga n ca)/\w.cell? ⟨P,11,none⟩=some (.slice qa m co)
theorem KP.of{w:World}{P ty:Nat}{s:Ak}{g nt ca q no co t:Nat}{m:Value}(h:Ah w P (.cells (Hg s g nt ca q no co t m) ty)):KP w P:=⟨_,_,_,_,_,_,h.work.2.1,h.work.2.2.1⟩
def Jc(E:Nat->Addr)(B P:Nat)(s:Ak)(lt:List Ac)(lo:List Ab)(t:Nat)(X:Ac)(m:Value)(w w':World)(tx:ByteArray)(v:Value):Prop:=
 Below B w w'/\((KP w' P/\∃c,Told w' B E v c/\c≠0/\FI X s lt lo t c ⟨#[]⟩ lt lo)∨(v= .nilIface/\∃(g ca q co:Nat) (lt':List Ac) (lo':List Ab),Mf w' B P s g ca q co lt' lo' t m/\FI X s lt lo t 0 tx lt' lo'))
section
variable {E:Nat->Addr}{w W:World}{B P:Nat}{s:Ak}{g ca q co:Nat}{lt:List Ac}{lo:List Ab}{t c C:Nat}{nb:Nat->Nat}{kv:Nat->Value}{K:Nat->List Int}{X:Ac}
theorem Jc.from{m:Value}{w':World}{tx:ByteArray}{r:Value}(h:Jc E B P s lt lo t X m W w' tx r)(hb:Below B w W):Jc E B P s lt lo t X m w w' tx r:=⟨hb.trans h.1,h.2⟩
theorem Jc.no{m:Value}{w':World}{tx:ByteArray}{r:Value}{c:Int}(kp:KP w' P)(hb:Below B w w')(ht:Told w' B E r c)(hc:c≠0)(ha:FI X s lt lo t c ⟨#[]⟩ lt lo):Jc E B P s lt lo t X m w w' tx r:=⟨hb,.inl ⟨kp,c,ht,hc,ha⟩⟩
theorem Jc.yes{m:Value}{w':World}{tx:ByteArray}{lt':List Ac}{lo':List Ab}{g' ca' q' co':Nat}(hb:Below B w w')(hs:Mf w' B P s g' ca' q' co' lt' lo' t m)(ha:FI X s lt lo t 0 tx lt' lo'):Jc E B P s lt lo t X m w w' tx .nilIface:=⟨hb,.inr ⟨rfl,_,_,_,_,_,_,hs,ha⟩⟩
theorem aU(v:Env E w B P s g ca q co lt lo t c C nb kv K X){u:Nat}(hu:BH X lo s.id 1=some u)(hk:(s.kind=6/\Ap X (Aa lo u).b1 (Aa lo u).c1=true)∨s.kind=7∨s.kind=8):
 Calls prog 149 #[.pointer (some ⟨P,0,none⟩),.agg #[.pointer (some ⟨q,u*10,none⟩)]] w fun e w'=>∃tx r,e= .returned (.tuple #[.string tx,r])/\Jc E B P s lt lo t X (.map (some c)) w w' tx r:=by
 obtain⟨_,ul,_⟩:=Dr hu;have eo:=AM ul;have hd:=Cu v.ok;rcases hk with⟨hk,hc⟩|hk|hk
 ·refine(Ks w B P s g ca q co lt lo t _ v.h v.hB u ul _ eo hd hk).mono ?_;rintro e w' ⟨rfl,h1,h2⟩;exact⟨_,_,rfl,.yes h2 h1.f (.k6 hk (.inr ⟨u,hu,.inr ⟨hc,rfl,rfl,rfl,rfl⟩⟩))⟩
 ·refine(Lt w B P s g ca q co lt lo t _ v.h v.hB u ul _ eo hd hk).mono ?_;rintro e w' ⟨rfl,h1,h2⟩;exact⟨_,_,rfl,.yes h2 h1.f (.k7 hk (.inr ⟨u,hu,rfl,rfl,rfl,rfl⟩))⟩
 ·have b0:Below w w (w.alloc (.cells #[.pointer (some ⟨q,u*10,none⟩)] 203)):=(Below.refl _ w).alloc (Nat.le_refl _) _;have V:=v.below b0;have CT:=TF E _ B P s g ca q co lt lo t c C nb kv K V.h V.n V.e V.h14 V.hB V.ht X V.hX u ul _ eo hd (bE v.so) (fun p hp W hW=>V.changes p hp W hW);refine(LG w B P s g ca q co lt lo t _ v.h u ul _ eo hd hk _ CT).mono ?_;rintro e w' ⟨r,rfl,c',lo',h1,h2,h3,h4⟩;refine⟨_,r,rfl,?_⟩;have h2':=(b0.mono v.hB).trans h2;rcases h4 with⟨a1,rfl,rfl⟩|⟨p,a1,⟨a2,rfl,rfl⟩|⟨a2,a3,rfl,rfl⟩⟩
  ·exact .no (.of h1.wk) h2' h3 (by decide) (.k8 hk (.inr ⟨u,hu,.inl ⟨a1,rfl,rfl,rfl,rfl⟩⟩))
  ·exact .no (.of h1.wk) h2' h3 (by decide) (.k8 hk (.inr ⟨u,hu,.inr ⟨p,a1,.inl ⟨a2,rfl,rfl,rfl,rfl⟩⟩⟩))
  ·rcases h3 with⟨_,rfl⟩|⟨h,_⟩
   ·exact .yes h2' h1.f (.k8 hk (.inr ⟨u,hu,.inr ⟨p,a1,.inr ⟨a2,a3,rfl,rfl,rfl,rfl⟩⟩⟩))
   ·exact absurd rfl h
theorem bX(v:Env E w B P s g ca q co lt lo t c C nb kv K X){u:Nat}(hu:BH X lo s.id 2=some u)(hc:Ap X (Aa lo u).b1 (Aa lo u).c1=true)(hk:s.kind=9∨s.kind=10):
 Calls prog 150 #[.pointer (some ⟨P,0,none⟩),.agg #[.pointer (some ⟨q,u*10,none⟩)]] w fun e w'=>∃tx r,e= .returned (.tuple #[.string tx,r])/\Jc E B P s lt lo t X (.map (some c)) w w' tx r:=by
 obtain⟨_,ul,_⟩:=Dr hu;have eo:=AM ul;have hd:=Cu v.ok;have hi:=(Pe v.ok _ (Fc ul)).1;rcases hk with hk|hk
 ·by_cases hf:(Aa lo u).jA.n=8
  ·refine(Oa E w B P s g ca q co lt lo t _ v.h v.e v.h14 v.hB u ul _ eo hd hk hf).mono ?_;rintro e w' ⟨r,rfl,h1,h2,h3⟩;exact⟨_,r,rfl,.no (.of h3.wk) h1 h2 (by decide) (.k9 hk (.inr ⟨u,hu,.inr (.inl ⟨hc,hf,rfl,rfl,rfl,rfl⟩)⟩))⟩
  ·refine(QR w B P s g ca q co lt lo t _ v.h v.hB u ul _ eo hd hk hf (by omega) (v.ti _ (Fc ul)) (by have:=Gk (Gl v.so).data;unfold maxLen;omega)).mono ?_;rintro e w' ⟨a,cc,rfl,h1,h2⟩;exact⟨_,_,rfl,.yes h2 h1.f (.k9 hk (.inr ⟨u,hu,.inr (.inr ⟨hc,hf,rfl,rfl,rfl,a,cc,rfl⟩)⟩))⟩
 ·by_cases hf:(Aa lo u).jA.n=0
  ·refine(NU E w B P s g ca q co lt lo t _ v.h v.e v.h14 v.hB u ul _ eo hd hk hf).mono ?_;rintro e w' ⟨r,rfl,h1,h2,h3⟩;exact⟨_,r,rfl,.no (.of h3.wk) h1 h2 (by decide) (.k10 hk (.inr ⟨u,hu,.inr (.inl ⟨hc,hf,rfl,rfl,rfl,rfl⟩)⟩))⟩
  ·refine(Ny w B P s g ca q co lt lo t _ v.h v.hB u ul _ eo hd hk hf (by omega)).mono ?_;rintro e w' ⟨rfl,⟨a,kk,h1⟩,h2⟩;exact⟨_,_,rfl,.yes h2 h1 (.k10 hk (.inr ⟨u,hu,.inr (.inr ⟨hc,hf,rfl,rfl,rfl,a,kk,rfl⟩)⟩))⟩
theorem cf(v:Env E w B P s g ca q co lt lo t c C nb kv K X){u:Nat}(hu:BH X lo s.id 3=some u)(hk:s.kind=15):
 Calls prog 151 #[.pointer (some ⟨P,0,none⟩),.agg #[.pointer (some ⟨q,u*10,none⟩)]] w fun e w'=>∃tx,e= .returned (.string tx)/\Jc E B P s lt lo t X (.map (some c)) w w' tx .nilIface:=by
 obtain⟨ha,ul,hid_,_⟩:=Dr hu;have eo:=AM ul;rw[<-eo]at hid_;have on:=GM v.ok;have hl:(IW (Aa lo) (Aa lo u).id lo.length).length<=lo.length:=by
  unfold IW;rw[List.length_map];exact Nat.le_trans (List.length_filter_le _ _) (by simp)
 refine(WJ w B P s g ca q co lt lo t c C nb kv K v.h v.n v.hB u ul _ eo (Cu v.ok) (by rw[hid_];exact ha) (Mo (Jp v.ok _ (Fc ul))) _ (v.kid u ul) (by omega) (fun x hx=>?_) v.tab).mono ?_
 ·unfold IW at hx;obtain⟨i,hi,rfl⟩:=List.mem_map.1 hx;exact Jp v.ok _ (Fc (List.mem_range.1 (List.mem_filter.1 hi).1))
 ·rintro e w' ⟨rfl,h1,h2⟩;refine⟨_,rfl,.yes h2 h1.f (.k15 hk (.inr ⟨u,hu,rfl,?_,rfl,rfl⟩))⟩;rw[hid_]
theorem cn(v:Env E w B P s g ca q co lt lo t c C nb kv K X){u:Nat}(hu:BH X lo s.id 4=some u)(hk:s.kind=13):
 Calls prog 152 #[.pointer (some ⟨P,0,none⟩),.agg #[.pointer (some ⟨q,u*10,none⟩)]] w fun e w'=>∃r,e= .returned r/\Jc E B P s lt lo t X (.map (some c)) w w' ⟨#[]⟩ r:=by
 obtain⟨ha,ul,_⟩:=Dr hu;have eo:=AM ul;have o1:=IX v.thr.own;have o2:=IX (v.obj ul).own;have PT:Lib.compact (Ce ((List.range X.own.n).map X.own.h++(List.range (Aa lo u).own.n).map (Aa lo u).own.h))=Dk ((List.range X.own.n).map X.own.h) (Aa lo u).own.h (Aa lo u).own.n:=Lj (Rp v.thr.own) _ _;refine(We E w B P s g ca q co lt lo t _ v.h v.e v.h14 v.hB v.ht X v.hX u ul _ eo (Cu v.ok) (Dx X.b1 X.c1 X.own (Aa lo u).b2 (Aa lo u).c2) (fun W hW=>JG (v.xat.below hW).1 (v.xat.below hW).2.2 ((v.oat ul).2.2.2.1.below hW) v.thr.l1 v.thr.own (v.obj ul).l2) (by omega) (by omega) _ PT.symm).mono ?_;rintro e w' ⟨r,x,c',rfl,h1,h2,h3,h4⟩;refine⟨r,rfl,?_⟩;rcases h4 with⟨rfl,a1,rfl⟩|⟨rfl,a1,a2,rfl⟩|⟨rfl,a1,a2,a,cc,rfl⟩
 ·exact .no (.of h1.wk) h2 h3 (by decide) (.k13 hk (.inr ⟨u,hu,.inl ⟨a1,rfl,rfl,rfl,rfl⟩⟩))
 ·exact .no (.of h1.wk) h2 h3 (by decide) (.k13 hk (.inr ⟨u,hu,.inr (.inl ⟨a1,a2,rfl,rfl,rfl,rfl⟩)⟩))
 ·rcases h3 with⟨_,rfl⟩|⟨h,_⟩
  ·exact .yes h2 h1.f (.k13 hk (.inr ⟨u,hu,.inr (.inr ⟨a1,a2,rfl,rfl,a,cc,rfl,rfl⟩)⟩))
  ·exact absurd rfl h
end
end Go.Proofs.YtmikapeeflcbfaaGreatDoor
