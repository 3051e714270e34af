import Derived.Orders
import Derived.Test.YtefoofaocbjdoaaGreatDoorZ31s
set_option maxRecDepth 100000
set_option maxHeartbeats 16000000
namespace Go.Proofs.YtefoofaocbjdoaaGreatDoor
open Go Go.RowKit Go.Deep Go.Maps Go.BigFrame Go.Shelf Go.Proofs.Tryz
variable {G:AI}{l L:List Ab}{k q B co p:Nat}{w w1 w2 wr:World}
def Gr(G:AI)(l:List Ab):List Ab:=l.filter (fun o=> !hasB G.n G.h o.id)
theorem Nh(h:∀x∈l,hasB G.n G.h x.id=false):Gr G l=l:=List.filter_eq_self.2 (fun x hx=>by rw[h x hx];rfl)
theorem J8(hk:k<l.length):Gr G (l.take (k+1))=Gr G (l.take k)++(if hasB G.n G.h l[k].id=true then[]else[l[k]]):=by
 unfold Gr;rw[List.take_add_one,List.getElem?_eq_getElem hk,List.filter_append];cases hh:hasB G.n G.h l[k].id<;>simp[hh]
theorem QM(L:List Ab)(p:Nat)(hp:p<=L.length):(Aw L).take (p*10)=Aw (L.take p):=by
 have e:Aw L=Aw (L.take p)++Aw (L.drop p):=by rw[<-IW,List.take_append_drop]
 have hl:(Aw (L.take p)).length=p*10:=by rw[Gs,List.length_take,Nat.min_eq_left hp]
 rw[e,List.take_append_of_le_length (by omega),List.take_of_length_le (by omega)]
theorem Fy{row:Option Nat}(h:w.grownBy w1 row)(hb:Below w1 w1 w2):w.grownBy w2 row:=
 ⟨hb.os.trans h.os,hb.tape.trans h.tape,hb.output.trans h.output,Nat.le_trans h.size hb.size,fun k hk hne=>(hb.block k (Nat.lt_of_lt_of_le hk h.size)).trans (h.block k hk hne)⟩
theorem Aq(h:w.grownBy w1 (some q))(i:Nat)(v:Value):w.grownBy (w1.setCell ⟨q,i,none⟩ v) (some q):=
 ⟨h.os,h.tape,h.output,by simpa[World.setCell]using h.size,fun k hk hne=>(Below.heap_setCell _ _ _ _ (fun(e:k=q)=>hne (by rw[e]))).trans (h.block k hk hne)⟩
structure Po(B q co:Nat)(l:List Ab)(G:AI)(w wr:World)(p k:Nat)(L:List Ab):Prop where
 pk:p<k
 kn:k<=l.length
 len:L.length=l.length
 own:AO wr B (.slice q L.length co) L
 fst:L.take p=Gr G (l.take k)
 rst:L.drop k=l.drop k
 gr:w.grownBy wr (some q)
theorem Po.at(h:Po B q co l G w wr p k L)(hk:k<l.length):L[k]'(by rw[h.len];exact hk)=l[k]:=by
 have h1:=congrArg (fun x=>x[0]?) h.rst;simp only[List.getElem?_drop,Nat.add_zero]at h1;rw[List.getElem?_eq_getElem (by rw[h.len];exact hk),List.getElem?_eq_getElem hk]at h1;exact Option.some.inj h1
theorem Po.skip{w':World}(h:Po B q co l G w wr p k L)(hk:k<l.length)(hg:hasB G.n G.h l[k].id=true)(hb:Below wr wr w'):Po B q co l G w w' p (k+1) L:=
 ⟨by have:=h.pk;omega,hk,h.len,h.own.below hb,by rw[J8 hk,hg,h.fst];simp,by rw[<-List.drop_drop,h.rst,List.drop_drop],Fy h.gr hb⟩
theorem Po.keep(h:Po B q co l G w wr p k L)(hk:k<l.length)(hg:hasB G.n G.h l[k].id=false)(ho:w2.ownsRow B 63 10 (.slice q L.length co) L.length (Aw (L.set p l[k])))(hgr:w.grownBy w2 (some q)):Po B q co l G w w2 (p+1) (k+1) (L.set p l[k]):=
 ⟨by have:=h.pk;omega,hk,by rw[List.length_set];exact h.len,by unfold AO;rw[List.length_set];exact ho,by
   have pl:p<L.length:=(by have:=h.pk;rw[h.len];omega);rw[J8 hk,hg,List.take_add_one,List.take_set_of_le nr,h.fst];simp[pl],by rw[List.drop_set_of_lt (by have:=h.pk;omega),<-List.drop_drop,h.rst,List.drop_drop],hgr⟩
theorem Ry(B q co vb:Nat)(l:List Ab)(G:AI)(w:World)(h:AO w B (.slice q l.length co) l)(hn:l.length<=1048576)(hv:w.cell? ⟨vb,0,none⟩=some (.slice G.a G.n G.k))(hl:vb<w.heap.size)(hvq:vb≠q)(hG:∀W,w.grownBy W (some q)->G.at W):
 Calls prog 115 #[.slice q l.length co,.func (.func 116) #[] #[.pointer vb]] w fun e w'=>e= .returned (.slice q (Gr G l).length co)/\AO w' B (.slice q (Gr G l).length co) (Gr G l)/\w.grownBy w' (some q):=by
 have g0:w.grownBy w (some q):=⟨rfl,rfl,rfl,Nat.le_refl _,fun _ _ _=>rfl⟩;have IXF:=hid (UI B q co vb l G w h hn hv hl (hG w g0));have HO:=hid h;have HG:=hid hG;have HV:=hid hv;have cap:=(Dm h).1;have caM:=(Dm h).2;have G0:=hid g0;clear h hG hv g0;go_enter func115,ntmps115
 go_wp2_with fail
 refine IXF.out.mono ?_;rintro e w1 ⟨b1,hr⟩;have B1:=hid b1;clear IXF b1;rcases hr with⟨rfl,hall⟩|⟨i,hi,rfl,hno,hyes⟩
 ·have EK:Hid (Gr G l=l):=hid (Nh hall);clear hall;go_wp2;go_ret;rw[EK.out];exact⟨rfl,HO.out.below B1,Fy G0 B1⟩
 ·have i1:¬(i:Int)= -1:=by omega
  have i2:((i:Int)== -1)=false:=beq_eq_false_iff_ne.2 i1;have wr1:IntKind.i64.wrap ((i:Int)+1)=(i:Int)+1:=by rw[IntKind.wrap_i64];omega
  have ST:Hid (Po B q co l G w w1 i (i+1) l):=hid ⟨Nat.lt_succ_self _,hi,rfl,HO.out.below B1,by
   rw[J8 hi,Nh hno];rw[AM hi]at hyes;rw[hyes];simp,rfl,Fy G0 B1⟩
  clear hno hyes;go_wp2;go_loopw [5,6] (fun a b wr=>∃(p k:Nat) (L:List Ab),a= .int .i64 p/\b= .int .i64 k/\Hid (Po B q co l G w wr p k L)) (fun _ b _=>l.length-(intOf b).toNat)
  case atStart=>exact⟨i,i+1,l,rfl,by first|rfl|go_num,ST⟩
  case round=>
   clear ST;obtain⟨p,k,L,rfl,rfl,DI⟩:=hrel;have pk:=DI.out.pk;have kn:=DI.out.kn;have len:=DI.out.len;by_cases hlt:k<l.length
   ·have j1:(k:Int)<(l.length:Int):=(by omega);have j0:(0:Int)<=(k:Int):=(by omega);have p0:(0:Int)<=(p:Int):=(by omega);have p1:(p:Int)<(l.length:Int):=(by omega);have hkL:k<L.length:=(by omega);have hpL:p<L.length:=(by omega);obtain⟨CC,ql,hBq,cur,hcur⟩:=AO.cells DI.out.own hkL;have ek:=DI.out.at hlt;rw[ek]at CC;obtain⟨o,ho⟩:∃o,o=l[k]:=⟨_,rfl⟩;rw[<-ho]at CC;have HK:=hid ho;have q0:wr.cell? ⟨q,k*10,none⟩=some (.int .i64 o.id):=CC.c0;have q1:wr.cell? ⟨q,k*10+1,none⟩=some (.int .i64 o.kind):=CC.c1;have q2:wr.cell? ⟨q,k*10+2,none⟩=some (.int .i64 o.up):=CC.c2;have q3:wr.cell? ⟨q,k*10+3,none⟩=some (.int .i64 o.b1):=CC.c3;have q4:wr.cell? ⟨q,k*10+4,none⟩=some (.slice o.c1.a o.c1.n o.c1.k):=CC.c4;have q5:wr.cell? ⟨q,k*10+5,none⟩=some (.string o.data):=CC.c5;have q6:wr.cell? ⟨q,k*10+6,none⟩=some (.slice o.jA.a o.jA.n o.jA.k):=CC.c6;have q7:wr.cell? ⟨q,k*10+7,none⟩=some (.slice o.own.a o.own.n o.own.k):=CC.c7;have q8:wr.cell? ⟨q,k*10+8,none⟩=some (.int .i64 o.b2):=CC.c8;have q9:wr.cell? ⟨q,k*10+9,none⟩=some (.slice o.c2.a o.c2.n o.c2.k):=CC.c9;have n1:No (.cells o 63):=⟨⟩;have BA:Below wr wr (wr.alloc n1):=Be wr _;have gr:=Fy DI.out.gr BA;have vc:(wr.alloc n1).cell? ⟨vb,0,none⟩=some (.slice G.a G.n G.k):=(World.cell?_of_block (a:=⟨vb,0,none⟩) (gr.block vb hl (fun e=>hvq (Option.some.inj e)))).trans HV.out;have GA:=hid (Tn o vb 0 G _ vc (Nat.lt_of_lt_of_le hl gr.size) (HG _ gr));have BD:=hid BA;have AB:=hid (Ah.new wr n1);have OWA:=hid (DI.out.own.below BA);clear CC ek ho BA gr vc cur hcur;go_wp2_with fail
    refine GA.out.mono ?_;rintro e w2 ⟨rfl,b2⟩;have B2:=hid (Af BD b2);have A2:=hid (AB.out.below b2);clear b2 q0 q1 q2 q3 q4 q5 q6 q7 q8 q9 GA;cases hg:hasB G.n G.h o.id with
    |true=>
     have DN:=hid (DI.out.skip hlt (by rw[<-HK.out];exact hg) B2);clear hg;have wk1:IntKind.i64.wrap ((k:Int)+1)=(k:Int)+1:=(by rw[IntKind.wrap_i64];omega);go_wp2;go_roundw;case rel=>exact⟨p,k+1,L,rfl,by first|rfl|go_num,DN⟩
     case measure=>simp[intOf];omega
    |false=>
     obtain⟨x0,x1,x2,x3,x4,x5,x6,x7,x8,x9⟩:=A2.out.jE;have O2:=DI.out.own.below B2.out;obtain⟨CP,_,_,cur,hcur⟩:=AO.cells O2 hpL;obtain⟨o2,ho2⟩:∃o2,o2=L[p]:=⟨_,rfl⟩;rw[<-ho2]at CP;have y0:w2.cell? ⟨q,p*10,none⟩=some (.int .i64 o2.id):=CP.c0;have y1:w2.cell? ⟨q,p*10+1,none⟩=some (.int .i64 o2.kind):=CP.c1;have y2:w2.cell? ⟨q,p*10+2,none⟩=some (.int .i64 o2.up):=CP.c2;have y3:w2.cell? ⟨q,p*10+3,none⟩=some (.int .i64 o2.b1):=CP.c3;have y4:w2.cell? ⟨q,p*10+4,none⟩=some (.slice o2.c1.a o2.c1.n o2.c1.k):=CP.c4;have y5:w2.cell? ⟨q,p*10+5,none⟩=some (.string o2.data):=CP.c5;have y6:w2.cell? ⟨q,p*10+6,none⟩=some (.slice o2.jA.a o2.jA.n o2.jA.k):=CP.c6;have y7:w2.cell? ⟨q,p*10+7,none⟩=some (.slice o2.own.a o2.own.n o2.own.k):=CP.c7;have y8:w2.cell? ⟨q,p*10+8,none⟩=some (.int .i64 o2.b2):=CP.c8;have y9:w2.cell? ⟨q,p*10+9,none⟩=some (.slice o2.c2.a o2.c2.n o2.c2.k):=CP.c9;have gf:=hcur.jC;have OS:=hid (AO.store O2 hpL o);have GR:=hid (Fy DI.out.gr B2);have HGF:=hid hg;clear CP ho2 hg O2;have wk1:IntKind.i64.wrap ((k:Int)+1)=(k:Int)+1:=(by rw[IntKind.wrap_i64];omega);have wp1:IntKind.i64.wrap ((p:Int)+1)=(p:Int)+1:=(by rw[IntKind.wrap_i64];omega);go_wp2;go_roundw;case rel=>
      refine⟨p+1,k+1,L.set p o,by first|rfl|go_num,by first|rfl|go_num,hid ?_⟩;have hk':=HK.out;subst hk';exact DI.out.keep hlt HGF OS (Aq (Aq (Aq (Aq (Aq (Aq (Aq (Aq (Aq (Aq GR _ _) _ _) _ _) _ _) _ _) _ _) _ _) _ _) _ _) _ _)
     case measure=>simp[intOf];omega
   ·have ek:k=l.length:=(by omega);have j1:¬(k:Int)<(l.length:Int):=(by omega);have pL:p<=L.length:=(by omega);have FS:=hid DI.out.fst;obtain⟨vs,hcl⟩:∃vs,∀ty,(Builtin.clear_ #[25] ty #[.slice (some ⟨q,p*10,none⟩) (l.length-p) (co-p)]).run prog wr= .ok (.tuple #[]) (wr.setCells q (p*10) vs):=by
     obtain⟨b,off,e,hlt',hc⟩:=Bp.own DI.out.own (by omega);cases e;have cc:∀j,j<(l.length-p)*10->(wr.cell? ⟨q,p*10+j,none⟩).isSome=true:=fun j hj=>by
      have hjl:p*10+j<(Aw L).length:=(by rw[Gs,len];omega);have:=hc (p*10+j) _ (List.getElem?_eq_getElem hjl);rw[Nat.zero_add]at this;rw[this];rfl
     have ff:∀j,j<(l.length-p)*10->wr.frozen? ⟨q,p*10+j,none⟩=false:=fun j hj=>by
      obtain⟨_,_,_,cur,hcur⟩:=AO.cells DI.out.own (i:=0) (by omega);exact hcur.jC _
     exact Se wr q (p*10) (l.length-p) (co-p) (by omega) cc ff
    obtain⟨xs',h2,h3,g2⟩:=SY vs (p*10) wr _ DI.out.own;have OW:Hid (AO (wr.setCells q (p*10) vs) B (.slice q (Gr G l).length co) (Gr G l)):=hid (by
     have ef:L.take p=Gr G l:=(by rw[FS.out,ek,List.take_of_length_le nr]);have el:(Gr G l).length=p:=(by rw[<-ef,List.length_take,Nat.min_eq_left pL]);unfold AO;rw[el];exact YW h2 pL (by rw[h3,QM L p pL,ef]))
    have EL:Hid ((Gr G l).length=p):=hid (by
     have ef:L.take p=Gr G l:=(by rw[FS.out,ek,List.take_of_length_le nr]);rw[<-ef,List.length_take,Nat.min_eq_left pL])
    have GR:Hid (w.grownBy (wr.setCells q (p*10) vs) (some q)):=hid ⟨g2.os.trans DI.out.gr.os,g2.tape.trans DI.out.gr.tape,g2.output.trans DI.out.gr.output,Nat.le_trans DI.out.gr.size g2.size,fun k hk hne=>(g2.block k (Nat.lt_of_lt_of_le hk DI.out.gr.size) hne).trans (DI.out.gr.block k hk hne)⟩;have p1:(p:Int)<=(l.length:Int):=(by omega);have p2:p<=l.length:=(by omega);have p3:p<=co:=(by omega);have p4:(0:Int)<=(p:Int):=(by omega);have p5:¬co=p:=(by omega);have p6:(p:Int)<=(co:Int):=(by omega);have p7:(l.length:Int)<=(co:Int):=(by omega);clear h2 h3 g2;go_wp2;go_ret;rw[EL.out]at OW ⊢;exact⟨rfl,OW,GR⟩
theorem Kl(n:Int)(used:Bool)(w:World):
 Calls prog 31 #[.int .i64 n,.bool used] w fun e w'=>e= .returned (.bool (MK n used))/\w'=w:=by
 cases used with
 |false=>
  go_enter func31,ntmps31
  go_wp2;go_ret;exact⟨Ag (by simp[MK]),rfl⟩
 |true=>
  go_enter func31,ntmps31
  go_wp2
  ·go_ret;exact⟨Ag (by simp only[MK,if_true];exact(KQ ‹_›).symm),rfl⟩
  ·go_ret;exact⟨Ag (by simp only[MK,if_true];exact(Nu ‹_›).symm),rfl⟩
theorem UK(kind:Int)(w:World):
 Calls prog 27 #[.int .i64 kind] w fun e w'=>e= .returned (.tuple #[.agg #[.bool (aT kind),.bool (bJ kind),.bool (SI kind),.bool (Qa kind),.bool (Lu kind),.bool (Jm kind)],.bool (aI kind)])/\Below w w w':=by
 by_cases h1:kind=1
 ·subst h1;go_enter func27,ntmps27
  go_wp2;refine bodyPost_ret (v:= .tuple #[.agg #[.bool false,.bool false,.bool false,.bool false,.bool false,.bool false],.bool true]) (by simp[results,Tryz.results27,go_sem]) rfl ⟨by rfl,Be w _⟩
 by_cases h2:kind=2
 ·subst h2;go_enter func27,ntmps27
  go_wp2;refine bodyPost_ret (v:= .tuple #[.agg #[.bool true,.bool false,.bool false,.bool false,.bool true,.bool false],.bool true]) (by simp[results,Tryz.results27,go_sem]) rfl ⟨by rfl,Be w _⟩
 by_cases h3:kind=3
 ·subst h3;go_enter func27,ntmps27
  go_wp2;refine bodyPost_ret (v:= .tuple #[.agg #[.bool true,.bool false,.bool false,.bool false,.bool true,.bool false],.bool true]) (by simp[results,Tryz.results27,go_sem]) rfl ⟨by rfl,Be w _⟩
 by_cases h4:kind=4
 ·subst h4;go_enter func27,ntmps27
  go_wp2;refine bodyPost_ret (v:= .tuple #[.agg #[.bool true,.bool false,.bool false,.bool false,.bool true,.bool false],.bool true]) (by simp[results,Tryz.results27,go_sem]) rfl ⟨by rfl,Be w _⟩
 by_cases h5:kind=5
 ·subst h5;go_enter func27,ntmps27
  go_wp2;refine bodyPost_ret (v:= .tuple #[.agg #[.bool true,.bool false,.bool true,.bool false,.bool true,.bool true],.bool true]) (by simp[results,Tryz.results27,go_sem]) rfl ⟨by rfl,Be w _⟩
 by_cases h6:kind=6
 ·subst h6;go_enter func27,ntmps27
  go_wp2;refine bodyPost_ret (v:= .tuple #[.agg #[.bool true,.bool false,.bool false,.bool true,.bool false,.bool false],.bool true]) (by simp[results,Tryz.results27,go_sem]) rfl ⟨by rfl,Be w _⟩
 by_cases h7:kind=7
 ·subst h7;go_enter func27,ntmps27
  go_wp2;refine bodyPost_ret (v:= .tuple #[.agg #[.bool true,.bool false,.bool false,.bool false,.bool false,.bool false],.bool true]) (by simp[results,Tryz.results27,go_sem]) rfl ⟨by rfl,Be w _⟩
 by_cases h8:kind=8
 ·subst h8;go_enter func27,ntmps27
  go_wp2;refine bodyPost_ret (v:= .tuple #[.agg #[.bool true,.bool true,.bool false,.bool false,.bool false,.bool false],.bool true]) (by simp[results,Tryz.results27,go_sem]) rfl ⟨by rfl,Be w _⟩
 by_cases h9:kind=9
 ·subst h9;go_enter func27,ntmps27
  go_wp2;refine bodyPost_ret (v:= .tuple #[.agg #[.bool true,.bool false,.bool false,.bool true,.bool false,.bool false],.bool true]) (by simp[results,Tryz.results27,go_sem]) rfl ⟨by rfl,Be w _⟩
 by_cases h10:kind=10
 ·subst h10;go_enter func27,ntmps27
  go_wp2;refine bodyPost_ret (v:= .tuple #[.agg #[.bool true,.bool false,.bool false,.bool false,.bool false,.bool false],.bool true]) (by simp[results,Tryz.results27,go_sem]) rfl ⟨by rfl,Be w _⟩
 by_cases h11:kind=11
 ·subst h11;go_enter func27,ntmps27
  go_wp2;refine bodyPost_ret (v:= .tuple #[.agg #[.bool true,.bool false,.bool false,.bool false,.bool false,.bool false],.bool true]) (by simp[results,Tryz.results27,go_sem]) rfl ⟨by rfl,Be w _⟩
 by_cases h12:kind=12
 ·subst h12;go_enter func27,ntmps27
  go_wp2;refine bodyPost_ret (v:= .tuple #[.agg #[.bool false,.bool false,.bool false,.bool false,.bool true,.bool false],.bool true]) (by simp[results,Tryz.results27,go_sem]) rfl ⟨by rfl,Be w _⟩
 by_cases h13:kind=13
 ·subst h13;go_enter func27,ntmps27
  go_wp2;refine bodyPost_ret (v:= .tuple #[.agg #[.bool true,.bool false,.bool false,.bool false,.bool false,.bool false],.bool true]) (by simp[results,Tryz.results27,go_sem]) rfl ⟨by rfl,Be w _⟩
 by_cases h14:kind=14
 ·subst h14;go_enter func27,ntmps27
  go_wp2;refine bodyPost_ret (v:= .tuple #[.agg #[.bool false,.bool false,.bool true,.bool false,.bool false,.bool false],.bool true]) (by simp[results,Tryz.results27,go_sem]) rfl ⟨by rfl,Be w _⟩
 by_cases h15:kind=15
 ·subst h15;go_enter func27,ntmps27
  go_wp2;refine bodyPost_ret (v:= .tuple #[.agg #[.bool true,.bool false,.bool false,.bool false,.bool false,.bool false],.bool true]) (by simp[results,Tryz.results27,go_sem]) rfl ⟨by rfl,Be w _⟩
 have g1:(kind==1)=false:=by simpa using h1
 have g2:(kind==2)=false:=by simpa using h2
 have g3:(kind==3)=false:=by simpa using h3
 have g4:(kind==4)=false:=by simpa using h4
 have g5:(kind==5)=false:=by simpa using h5
 have g6:(kind==6)=false:=by simpa using h6
 have g7:(kind==7)=false:=by simpa using h7
 have g8:(kind==8)=false:=by simpa using h8
 have g9:(kind==9)=false:=by simpa using h9
 have g10:(kind==10)=false:=by simpa using h10
 have g11:(kind==11)=false:=by simpa using h11
 have g12:(kind==12)=false:=by simpa using h12
 have g13:(kind==13)=false:=by simpa using h13
 have g14:(kind==14)=false:=by simpa using h14
 have g15:(kind==15)=false:=by simpa using h15
 clear h1 h2 h3 h4 h5 h6 h7 h8 h9 h10 h11 h12 h13 h14 h15;go_enter func27,ntmps27
 go_wp2;refine bodyPost_ret (v:= .tuple #[.agg #[.bool false,.bool false,.bool false,.bool false,.bool false,.bool false],.bool false]) (by simp[results,Tryz.results27,go_sem]) rfl ⟨by simp[aT,bJ,SI,Qa,Lu,Jm,aI,g1,g2,g3,g4,g5,g6,g7,g8,g9,g10,g11,g12,g13,g14,g15],Be w _⟩
theorem Ah.six{W:World}{P t:Nat}{x0 x1 x2 x3 x4 x5:Value}(h:Ah W P (.cells #[x0,x1,x2,x3,x4,x5] t)):W.cell? ⟨P,0,none⟩=some x0/\W.cell? ⟨P,1,none⟩=some x1/\W.cell? ⟨P,2,none⟩=some x2/\W.cell? ⟨P,3,none⟩=some x3/\W.cell? ⟨P,4,none⟩=some x4/\W.cell? ⟨P,5,none⟩=some x5:=by
 unfold Ah at h;simp[World.cell?,h]
theorem Wr(th kind id to' cat:Int)(d:ByteArray)(bl:Int)(al:Option Addr)(nl kl:Nat)(bc:Int)(ac:Option Addr)(nc kc:Nat)(used:Bool)(w:World):
 Calls prog 32 #[.agg #[th,.int .i64 kind,.int .i64 id,.int .i64 to',cat,.string d,.int .i64 bl,.slice al nl kl,.int .i64 bc,.slice ac nc kc],.bool used] w fun e w'=>e= .returned (.bool (OF kind cat used))/\Below w w w':=by
 have hb0:=Be w (.cells #[th,.int .i64 kind,.int .i64 id,.int .i64 to',cat,.string d,.int .i64 bl,.slice al nl kl,.int .i64 bc,.slice ac nc kc] 32);cases t:(cat==0)with
 |true=>
  go_enter func32,ntmps32
  go_wp2;go_ret;exact⟨Ag (by simp[OF,t]),hb0⟩
 |false=>
  cases used with
  |true=>
   go_enter func32,ntmps32
   go_wp2_with(go_at_call 68;refine(Ig _ _).mono ?_;rintro e w' ⟨rfl,rfl⟩)
   go_ret;exact⟨Ag (by simp[OF,t]),hb0⟩
  |false=>
   go_enter func32,ntmps32
   go_wp2;go_ret;exact⟨Ag (by simp[OF,t]),hb0⟩
section
variable {P:Program}{ops:Array Oper}{Q:Exit->Act->World->Prop}{a:Act}{w:World}
def Bt(P:Program)(ops:Array Oper)(Q:Exit->Act->World->Prop)(i:Nat)(a:Act)(w:World):Prop:=wpOps P ops Q (List.range' i (ops.size-i)) a w
theorem Bt.region{id:Nat}(h:Bt P ops Q 0 a w):(Code.region id ops false).wp P Q a w:=by
 refine wp_region ?_;unfold Bt at h;rw[Nat.sub_zero,<-List.range_eq_range']at h;exact h
theorem UG{i n:Nat}(h:i<n):List.range' i (n-i)=i::List.range' (i+1) (n-(i+1)):=by
 obtain⟨k,hk⟩:∃k,n-i=k+1:=⟨n-i-1,by omega⟩;have:n-(i+1)=k:=by omega
 rw[hk,this,List.range'_succ]
theorem Bt.step{i:Nat}{o:Oper}(ho:ops[i]? =some o)(h:∀K':Act->World->Prop,Hid (∀a w,Bt P ops Q (i+1) a w->K' a w)->if Region.wanted o (yielded ops a.tmps)=true then Oper.wp P o a w K' Q else K' (a.put o.dst undef) w):Bt P ops Q i a w:=by
 have hlt:i<ops.size:=(Array.getElem?_eq_some_iff.1 ho).1;unfold Bt;rw[UG hlt];unfold wpOps;rw[ho];dsimp only;have:=h (wpOps P ops Q (List.range' (i+1) (ops.size-(i+1)))) (fun a w h=>h);split
 ·rename_i hw;rw[if_pos hw]at this;exact .inl this
 ·rename_i hw;rw[if_neg hw]at this;exact this
theorem Bt.take{i d:Nat}{o:Oper}(v:Value)(ho:ops[i]? =some o)(hd:o.dst=some d)(hw:Region.wanted o (yielded ops a.tmps)=true)(hv:(execOp a.eval o).run P w= .ok (.value v) w)
 (h:Bt P ops Q (i+1) (a.put (some d) v) w):Bt P ops Q i a w:=
 Bt.step ho fun K' hK=>by
  rw[if_pos hw];unfold Oper.wp;rw[hv];simp only[Oper.upon];rw[hd];exact hK.out _ _ h
theorem Bt.done{i:Nat}(hi:ops.size<=i)(h:Q .normal a w):Bt P ops Q i a w:=by
 unfold Bt;have:ops.size-i=0:=by omega
 rw[this];exact h
def Value.isUndef:Value->Bool
 | .tuple xs=>xs.size==0
 |_=>false
def idle(ops:Array Oper)(tmps:Array Value)(k:Nat):Bool:=match ops[k]? with
 |some o=> !(Region.wanted o (yielded ops tmps))&&match o.dst with
  |some d=>match tmps[d]? with
   |some v=>Value.isUndef v
   |none=>false
  |none=>true
 |none=>false
theorem Wb{d:Nat}(h:(match a.tmps[d]? with|some v=>Value.isUndef v|none=>false)=true):a.put (some d) undef=a:=by
 cases hv:a.tmps[d]? with
 |none=>rw[hv]at h;simp at h
 |some v=>
  rw[hv]at h;dsimp only at h;have hu:v=undef:=by
   cases v with
   |tuple xs=>
    have hs:xs.size=0:=(by simpa[Value.isUndef]using h);have:xs=#[]:=Array.eq_empty_of_size_eq_zero hs;rw[this];rfl
   |_=>simp[Value.isUndef]at h
  obtain⟨hlt,he⟩:=Array.getElem?_eq_some_iff.1 hv;cases a with
  |mk tmps defers=>
   simp only[Act.put];congr;apply Array.ext
   ·simp
   ·intro i h1 h2;by_cases e:d=i
    ·subst e;rw[Array.getElem_setIfInBounds_self];rw[<-hu];exact he.symm
    ·rw[Array.getElem_setIfInBounds_ne _ e]
theorem Bt.pass{j:Nat}(m:Nat):∀{i:Nat},i+m=j->(List.range' i m).all (idle ops a.tmps)=true->Bt P ops Q j a w->Bt P ops Q i a w:=by
 induction m with
 |zero=>intro i hi _ h;have e:i=j:=by omega
        rw[e];exact h
 |succ m ih=>
  intro i hi hall h;rw[List.range'_succ,List.all_cons,Bool.and_eq_true]at hall;obtain⟨h1,h2⟩:=hall;have hrest:=ih (i:=i+1) (by omega) h2 h;unfold idle at h1;cases ho:ops[i]? with
  |none=>rw[ho]at h1;simp at h1
  |some o=>
   rw[ho]at h1;dsimp only at h1;rw[Bool.and_eq_true]at h1;have hw:Region.wanted o (yielded ops a.tmps)=false:=(by simpa using h1.1);refine Bt.step ho fun K' hK=>?_;rw[if_neg (by rw[hw];simp)];cases hd:o.dst with
   |none=>exact hK.out _ _ hrest
   |some d=>
    have h3:=h1.2;rw[hd]at h3;dsimp only at h3;rw[Wb h3];exact hK.out _ _ hrest
end
section
variable {P:Program}{ops:Array Oper}{Q:Exit->Act->World->Prop}{w:World}
def Js(ev:Operand->Value):Op->Option Value
 | .move x=>some (ev x)
 | .assign x=>some (ev x)
 | .pick c x y=>match ev c with
  | .bool true=>some (ev x)
  | .bool false=>some (ev y)
  |_=>none
 |_=>none
theorem Tg{a:Act}{o:Oper}{v:Value}(h:Js a.eval o.op=some v):(execOp a.eval o).run P w= .ok (.value v) w:=by
 cases o with
 |mk dst op type pos after guard=>
  cases op with
  |move x=>cases h;rfl
  |assign x=>cases h;rfl
  |pick c x y=>
   simp only[Js]at h;generalize hc:a.eval c=vc at h;cases vc with
   |bool b=>
    cases b with
    |true=>cases h;simp only[execOp];rw[hc];rfl
    |false=>cases h;simp only[execOp];rw[hc];rfl
   |_=>simp at h
  |_=>simp[Js]at h
def carry1(ops:Array Oper)(a:Act)(i:Nat):Option Act:=match ops[i]? with
 |none=>none
 |some o=>match Region.wanted o (yielded ops a.tmps)with
  |true=>match Js a.eval o.op with
   |some v=>some (a.put o.dst v)
   |none=>none
  |false=>match idle ops a.tmps i with
   |true=>some a
   |false=>none
def carry(ops:Array Oper):Nat->Nat->Act->Option Act
 |0,_,a=>some a
 |m+1,i,a=>match carry1 ops a i with
  |some a'=>carry ops m (i+1) a'
  |none=>none
theorem Bt.carry1{i:Nat}{a a':Act}(h:carry1 ops a i=some a')(hr:Bt P ops Q (i+1) a' w):Bt P ops Q i a w:=by
 unfold YtefoofaocbjdoaaGreatDoor.carry1 at h;cases ho:ops[i]? with
 |none=>rw[ho]at h;simp at h
 |some o=>
  rw[ho]at h;dsimp only at h;cases hw:Region.wanted o (yielded ops a.tmps)with
  |true=>
   rw[hw]at h;dsimp only at h;cases hc:Js a.eval o.op with
   |none=>rw[hc]at h;simp at h
   |some v=>
    rw[hc]at h;dsimp only at h;cases h;refine Bt.step ho fun K' hK=>?_;rw[if_pos hw];unfold Oper.wp;rw[Tg hc];simp only[Oper.upon];exact hK.out _ _ hr
  |false=>
   rw[hw]at h;dsimp only at h;cases hi:idle ops a.tmps i with
   |false=>rw[hi]at h;simp at h
   |true=>
    rw[hi]at h;dsimp only at h;cases h;exact Bt.pass 1 (i:=i) (j:=i+1) rfl (by simp[hi]) hr
theorem Bt.carry(m:Nat):∀{i j:Nat}{a a':Act},i+m=j->carry ops m i a=some a'->Bt P ops Q j a' w->Bt P ops Q i a w:=by
 induction m with
 |zero=>intro i j a a' hj h hr;cases h;have e:i=j:=by omega
        rw[e];exact hr
 |succ m ih=>
  intro i j a a' hj h hr;unfold YtefoofaocbjdoaaGreatDoor.carry at h;cases hc:YtefoofaocbjdoaaGreatDoor.carry1 ops a i with
  |none=>rw[hc]at h;simp at h
  |some a1=>
   rw[hc]at h;dsimp only at h;exact Bt.carry1 hc (ih (i:=i+1) (by omega) h hr)
theorem Pr{i:Nat}{a a':Act}(h:carry1 ops a i=some a'):a'.defers=a.defers:=by
 unfold YtefoofaocbjdoaaGreatDoor.carry1 at h;cases ho:ops[i]? with
 |none=>rw[ho]at h;simp at h
 |some o=>
  rw[ho]at h;dsimp only at h;cases hw:Region.wanted o (yielded ops a.tmps)with
  |true=>
   rw[hw]at h;dsimp only at h;cases hc:Js a.eval o.op with
   |none=>rw[hc]at h;simp at h
   |some v=>
    rw[hc]at h;dsimp only at h;cases h;unfold Act.put;cases o.dst<;>rfl
  |false=>
   rw[hw]at h;dsimp only at h;cases hi:idle ops a.tmps i with
   |false=>rw[hi]at h;simp at h
   |true=>
    rw[hi]at h;dsimp only at h;cases h;rfl
theorem QZ(m:Nat):∀{i:Nat}{a a':Act},carry ops m i a=some a'->a'.defers=a.defers:=by
 induction m with
 |zero=>intro i a a' h;cases h;rfl
 |succ m ih=>
  intro i a a' h;unfold YtefoofaocbjdoaaGreatDoor.carry at h;cases hc:YtefoofaocbjdoaaGreatDoor.carry1 ops a i with
  |none=>rw[hc]at h;simp at h
  |some a1=>
   rw[hc]at h;dsimp only at h;exact(ih h).trans (Pr hc)
def QU(t:Nat):Option Act->Bool
 |some a=>match a.tmps[t]? with
  |some (.bool b)=> !b
  |_=>false
 |none=>false
theorem Bt.falls(t m:Nat){i:Nat}{a:Act}(hm:i+m=ops.size)(h:QU t (YtefoofaocbjdoaaGreatDoor.carry ops m i a)=true)
 (hr:∀T:Array Value,T[t]? =some (.bool false)->Q .normal ⟨T,a.defers⟩ w):Bt P ops Q i a w:=by
 cases hc:YtefoofaocbjdoaaGreatDoor.carry ops m i a with
 |none=>rw[hc]at h;simp[QU]at h
 |some a'=>
  rw[hc]at h;have hd:=QZ m hc;refine Bt.carry m hm hc (Bt.done nr ?_);have hT:a'.tmps[t]? =some (.bool false):=by
   unfold QU at h;dsimp only at h;split at h
   ·rename_i b hb;cases b with
    |true=>simp at h
    |false=>exact hb
   ·simp at h
  have:=hr a'.tmps hT;rw[<-hd]at this;exact this
theorem DD{T:Array Value}{D:List Deferred}{t:Nat}{x:Bool}(hT:T[t]? =some (.bool false))(hx:x=false):Ending.returned (({tmps:=T,defers:=D}:Act).tmps.getD t undef)=Ending.returned (.bool x):=by
 subst hx;simp[Array.getD_eq_getD_getElem?,hT]
end
section
variable {P:Program}{ops:Array Oper}{Q:Exit->Act->World->Prop}{a:Act}{w:World}
theorem Bt.tk(i d:Nat){o:Oper}(v:Value)(h:Bt P ops Q (i+1) (a.put (some d) v) w)(ho:ops[i]? =some o:=by rfl)(hd:o.dst=some d:=by rfl)
 (hw:Region.wanted o (yielded ops a.tmps)=true:=by kernel_rfl)(hv:(execOp a.eval o).run P w= .ok (.value v) w:=by go_simp):Bt P ops Q i a w:=Bt.take v ho hd hw hv h
def Qd:List Nat->List Value->Act->Act
 |d::ds,x::xs,a=>Qd ds xs (a.put (some d) x)
 |_,_,a=>a
theorem Bt.opt(ds:List Nat)(R:List Value->World->Prop)(j:Nat){i:Nat}(h1:∀xs w',R xs w'->Bt P ops Q j (Qd ds xs a) w')
 (h2:(∀xs w',R xs w'->Bt P ops Q j (Qd ds xs a) w')->Bt P ops Q i a w):Bt P ops Q i a w:=h2 h1
end
def Ys:Prop:=∀(th kind id to' cat:Int) (d:ByteArray) (bl:Int) (al:Option Addr) (nl kl:Nat) (fl gl:Nat->Int) (bc:Int) (ac:Option Addr) (nc kc:Nat) (fc gc:Nat->Int) (w:World) (_:d.size<=maxLen) (_:nl<=maxLen) (_:nc<=maxLen) (_:Ba w al nl fl gl) (_:Ba w ac nc fc gc),
 Calls prog 10 #[.agg #[th,.int .i64 kind,.int .i64 id,.int .i64 to',cat,.string d,.int .i64 bl,.slice al nl kl,.int .i64 bc,.slice ac nc kc]] w fun e w'=>e= .returned (.bool (G5 th kind id to' cat d bl nl fl gl bc nc fc gc))/\Below w w w'
theorem Kw:Ys:=by
 intro th kind id to' cat d bl al nl kl fl gl bc ac nc kc fc gc w hd hnl hnc hcl hcc;have n1:Na #[th,.int .i64 kind,.int .i64 id,.int .i64 to',cat,.string d,.int .i64 bl,.slice al nl kl,.int .i64 bc,.slice ac nc kc]:=⟨⟩;have L0:=Be w (.cells n1 32);have A0:=Ah.new w (.cells n1 32);unfold G5;have HU:=UK kind;generalize aI kind=ok at *;generalize aT kind=ui at *;generalize bJ kind=ut at *;generalize SI kind=uc at *;generalize Qa kind=ud at *;generalize Lu kind=ul at *;generalize Jm kind=ue at *;go_enter func10,ntmps10
 go_wp2_with fail
 refine(HU _).mono ?_;rintro e w1 ⟨rfl,hb1⟩;have n2:No (.cells #[.bool ui,.bool ut,.bool uc,.bool ud,.bool ul,.bool ue] 67):=⟨⟩;have K1:=(Below.refl _ w1).alloc nr n2;have A:=(A0.below hb1).below K1;have U:=Ah.new w1 n2;have L:Below w w (w1.alloc n2):=L0.trans ((hb1.mono (by simp)).trans (K1.mono (by have:=hb1.size;simp at this;omega)));clear hb1 K1 A0 L0;obtain⟨c0,c1,c2,c3,c4,c5,c6,c7,c8,c9⟩:=A.jE;go_upto_region 2 with fail
 clear c0 c1 c2 c3 c4 c5 c6 c7 c8 c9;generalize w1.alloc n2=W1 at *;generalize w1.heap.size=PU at *;refine Bt.region ?_;cases ok
 ·refine Bt.falls 2 74 rfl (by kernel_rfl) (fun T hT=>?_);go_wp2;go_ret;exact⟨DD hT (by simp[Fc]),L⟩
 by_cases s1:1<=th;rotate_left
 ·have t2:D9 th 1 9=false:=by simp[D9,s1]
  refine Bt.tk 0 11 (.bool true) ?_;simp only[ap,List.set];refine Bt.tk 1 12 (.bool true) ?_;simp only[ap,List.set];refine Bt.tk 2 13 (.pointer (w)) ?_;simp only[ap,List.set];refine Bt.tk 3 14 (.int .i64 th) ?_ (hv:=by obtain⟨c0,c1,c2,c3,c4,c5,c6,c7,c8,c9⟩:=A.jE;obtain⟨v0,v1,v2,v3,v4,v5⟩:=U.six;go_simp);simp only[ap,List.set];refine Bt.tk 4 15 (.bool false) ?_;simp only[ap,List.set];refine Bt.falls 2 69 rfl (by kernel_rfl) (fun T hT=>?_);go_wp2;go_ret;exact⟨DD hT (by simp[Fc,t2]),L⟩
 by_cases s2:th<=9;rotate_left
 ·have t2:D9 th 1 9=false:=by simp[D9,s2]
  refine Bt.tk 0 11 (.bool true) ?_;simp only[ap,List.set];refine Bt.tk 1 12 (.bool true) ?_;simp only[ap,List.set];have n3:Nv (.pointer (w)):=⟨⟩;refine Bt.tk 2 13 n3 ?_;simp only[ap,List.set];refine Bt.tk 3 14 (.int .i64 th) ?_ (hv:=by obtain⟨c0,c1,c2,c3,c4,c5,c6,c7,c8,c9⟩:=A.jE;obtain⟨v0,v1,v2,v3,v4,v5⟩:=U.six;go_simp);simp only[ap,List.set];refine Bt.tk 4 15 (.bool true) ?_;simp only[ap,List.set];refine Bt.tk 5 16 (.bool true) ?_;simp only[ap,List.set];refine Bt.tk 6 17 (.bool true) ?_;simp only[ap,List.set];refine Bt.tk 7 18 n3 ?_;simp only[ap,List.set];refine Bt.tk 8 19 (.int .i64 th) ?_ (hv:=by obtain⟨c0,c1,c2,c3,c4,c5,c6,c7,c8,c9⟩:=A.jE;obtain⟨v0,v1,v2,v3,v4,v5⟩:=U.six;go_simp);simp only[ap,List.set];refine Bt.tk 9 20 (.bool false) ?_;simp only[ap,List.set];refine Bt.falls 2 64 rfl (by kernel_rfl) (fun T hT=>?_);go_wp2;go_ret;exact⟨DD hT (by simp[Fc,t2]),L⟩
 have t2:D9 th 1 9=true:=CF.2 ⟨s1,s2⟩;refine Bt.tk 0 11 (.bool true) ?_;simp only[ap,List.set];refine Bt.tk 1 12 (.bool true) ?_;simp only[ap,List.set];have n4:Nv (.pointer (w)):=⟨⟩;refine Bt.tk 2 13 n4 ?_;simp only[ap,List.set];refine Bt.tk 3 14 (.int .i64 th) ?_ (hv:=by obtain⟨c0,c1,c2,c3,c4,c5,c6,c7,c8,c9⟩:=A.jE;obtain⟨v0,v1,v2,v3,v4,v5⟩:=U.six;go_simp);simp only[ap,List.set];refine Bt.tk 4 15 (.bool true) ?_;simp only[ap,List.set];refine Bt.tk 5 16 (.bool true) ?_;simp only[ap,List.set];refine Bt.tk 6 17 (.bool true) ?_;simp only[ap,List.set];refine Bt.tk 7 18 n4 ?_;simp only[ap,List.set];refine Bt.tk 8 19 (.int .i64 th) ?_ (hv:=by obtain⟨c0,c1,c2,c3,c4,c5,c6,c7,c8,c9⟩:=A.jE;obtain⟨v0,v1,v2,v3,v4,v5⟩:=U.six;go_simp);simp only[ap,List.set];refine Bt.tk 9 20 (.bool true) ?_;simp only[ap,List.set];refine Bt.tk 10 21 (.bool true) ?_;simp only[ap,List.set];refine Bt.tk 11 22 (.bool true) ?_;simp only[ap,List.set];have n5:Nv (.pointer (some ⟨w,6,none⟩)):=⟨⟩;refine Bt.tk 12 23 n5 ?_;simp only[ap,List.set];have n8:Nv (.agg #[.int .i64 bl,.slice al nl kl]):=⟨⟩;refine Bt.tk 13 24 n8 ?_ (hv:=by obtain⟨c0,c1,c2,c3,c4,c5,c6,c7,c8,c9⟩:=A.jE;obtain⟨v0,v1,v2,v3,v4,v5⟩:=U.six;go_simp);simp only[ap,List.set];refine Bt.step rfl (fun K1 hK1=>?_);go_simp;refine(Ej _ _ _ _ fl gl _ hnl (hcl.below L)).mono ?_;rintro e W2 ⟨rfl,hb⟩;replace A:=A.below hb;replace U:=U.below hb;replace L:Below w w W2:=L.trans (hb.mono L.size);clear hb;cases t3:AZ bl nl fl gl
 ·refine hK1 _ _ ?_;clear hK1 K1;refine Bt.falls 2 59 rfl (by kernel_rfl) (fun T hT=>?_);go_wp2;go_ret;exact⟨DD hT (by simp[Fc,t2,t3]),L⟩
 refine hK1 _ _ ?_;clear hK1 K1;try simp only[ap,List.set]
 refine Bt.tk 15 26 (.bool true) ?_;simp only[ap,List.set];refine Bt.tk 16 27 (.bool true) ?_;simp only[ap,List.set];refine Bt.tk 17 28 (.pointer (some ⟨PU,4,none⟩)) ?_;simp only[ap,List.set];refine Bt.tk 18 29 (.bool ul) ?_ (hv:=by obtain⟨c0,c1,c2,c3,c4,c5,c6,c7,c8,c9⟩:=A.jE;obtain⟨v0,v1,v2,v3,v4,v5⟩:=U.six;go_simp);simp only[ap,List.set];refine Bt.tk 19 30 (.bool ul) ?_;simp only[ap,List.set];refine Bt.opt [31,32,33,34] (fun xs W=>(∃x y z,xs=[x,y,z,.bool (ul||Dv bl nl)])/\Ah W w (.cells n1 32)/\Ah W PU n2/\Below w w W) 24 ?_ (fun REST=>?_);rotate_left
 ·cases ul
  ·skip;refine Bt.tk 20 31 n5 ?_;simp only[ap,List.set];refine Bt.tk 21 32 n8 ?_ (hv:=by obtain⟨c0,c1,c2,c3,c4,c5,c6,c7,c8,c9⟩:=A.jE;obtain⟨v0,v1,v2,v3,v4,v5⟩:=U.six;go_simp);simp only[ap,List.set];refine Bt.step rfl (fun K1 hK1=>?_);go_simp;refine(JX _ _ _ _ _ hnl).mono ?_;rintro e W2 ⟨rfl,hb⟩;replace A:=A.below hb;replace U:=U.below hb;replace L:Below w w W2:=L.trans (hb.mono L.size);clear hb;refine hK1 _ _ ?_;clear hK1 K1;try simp only[ap,List.set]
   refine Bt.tk 23 34 (.bool (Dv bl nl)) ?_;simp only[ap,List.set];exact REST _ _ ⟨⟨_,_,_,rfl⟩,A,U,L⟩
  ·refine Bt.pass (j:=23) 3 rfl (by kernel_rfl) ?_;refine Bt.tk 23 34 (.bool true) ?_;simp only[ap,List.set];exact REST _ _ ⟨⟨undef,undef,undef,rfl⟩,A,U,L⟩
 clear A U L;rintro xs W ⟨⟨x,y,z,rfl⟩,A,U,L⟩;simp only[Qd,ap,List.set];cases t4:(ul||Dv bl nl)
 ·refine Bt.falls 2 50 rfl (by kernel_rfl) (fun T hT=>?_);go_wp2;go_ret;exact⟨DD hT (by simp[Fc,t2,t3,t4]),L⟩
 refine Bt.tk 24 35 (.bool true) ?_;simp only[ap,List.set];refine Bt.tk 25 36 (.bool true) ?_;simp only[ap,List.set];have n6:Nv (.pointer (some ⟨w,8,none⟩)):=⟨⟩;refine Bt.tk 26 37 n6 ?_;simp only[ap,List.set];have n9:Nv (.agg #[.int .i64 bc,.slice ac nc kc]):=⟨⟩;refine Bt.tk 27 38 n9 ?_ (hv:=by obtain⟨c0,c1,c2,c3,c4,c5,c6,c7,c8,c9⟩:=A.jE;obtain⟨v0,v1,v2,v3,v4,v5⟩:=U.six;go_simp);simp only[ap,List.set];refine Bt.step rfl (fun K1 hK1=>?_);go_simp;refine(Ej _ _ _ _ fc gc _ hnc (hcc.below L)).mono ?_;rintro e W2 ⟨rfl,hb⟩;replace A:=A.below hb;replace U:=U.below hb;replace L:Below w w W2:=L.trans (hb.mono L.size);clear hb;cases t5:AZ bc nc fc gc
 ·refine hK1 _ _ ?_;clear hK1 K1;refine Bt.falls 2 45 rfl (by kernel_rfl) (fun T hT=>?_);go_wp2;go_ret;exact⟨DD hT (by simp[Fc,t2,t3,t4,t5]),L⟩
 refine hK1 _ _ ?_;clear hK1 K1;try simp only[ap,List.set]
 refine Bt.tk 29 40 (.bool true) ?_;simp only[ap,List.set];refine Bt.tk 30 41 (.bool true) ?_;simp only[ap,List.set];refine Bt.tk 31 42 (.pointer (some ⟨PU,5,none⟩)) ?_;simp only[ap,List.set];refine Bt.tk 32 43 (.bool ue) ?_ (hv:=by obtain⟨c0,c1,c2,c3,c4,c5,c6,c7,c8,c9⟩:=A.jE;obtain⟨v0,v1,v2,v3,v4,v5⟩:=U.six;go_simp);simp only[ap,List.set];refine Bt.tk 33 44 (.bool ue) ?_;simp only[ap,List.set];refine Bt.opt [45,46,47,48] (fun xs W=>(∃x y z,xs=[x,y,z,.bool (ue||Dv bc nc)])/\Ah W w (.cells n1 32)/\Ah W PU n2/\Below w w W) 38 ?_ (fun REST=>?_);rotate_left
 ·cases ue
  ·skip;refine Bt.tk 34 45 n6 ?_;simp only[ap,List.set];refine Bt.tk 35 46 n9 ?_ (hv:=by obtain⟨c0,c1,c2,c3,c4,c5,c6,c7,c8,c9⟩:=A.jE;obtain⟨v0,v1,v2,v3,v4,v5⟩:=U.six;go_simp);simp only[ap,List.set];refine Bt.step rfl (fun K1 hK1=>?_);go_simp;refine(JX _ _ _ _ _ hnc).mono ?_;rintro e W2 ⟨rfl,hb⟩;replace A:=A.below hb;replace U:=U.below hb;replace L:Below w w W2:=L.trans (hb.mono L.size);clear hb;refine hK1 _ _ ?_;clear hK1 K1;try simp only[ap,List.set]
   refine Bt.tk 37 48 (.bool (Dv bc nc)) ?_;simp only[ap,List.set];exact REST _ _ ⟨⟨_,_,_,rfl⟩,A,U,L⟩
  ·refine Bt.pass (j:=37) 3 rfl (by kernel_rfl) ?_;refine Bt.tk 37 48 (.bool true) ?_;simp only[ap,List.set];exact REST _ _ ⟨⟨undef,undef,undef,rfl⟩,A,U,L⟩
 clear A U L;rintro xs W ⟨⟨x,y,z,rfl⟩,A,U,L⟩;simp only[Qd,ap,List.set];cases t6:(ue||Dv bc nc)
 ·refine Bt.falls 2 36 rfl (by kernel_rfl) (fun T hT=>?_);go_wp2;go_ret;exact⟨DD hT (by simp[Fc,t2,t3,t4,t5,t6]),L⟩
 refine Bt.tk 38 49 (.bool true) ?_;simp only[ap,List.set];refine Bt.tk 39 50 (.bool true) ?_;simp only[ap,List.set];have n7:Nv (.pointer (some ⟨w,5,none⟩)):=⟨⟩;refine Bt.tk 40 51 n7 ?_;simp only[ap,List.set];refine Bt.tk 41 52 (.string d) ?_ (hv:=by obtain⟨c0,c1,c2,c3,c4,c5,c6,c7,c8,c9⟩:=A.jE;obtain⟨v0,v1,v2,v3,v4,v5⟩:=U.six;go_simp);simp only[ap,List.set];refine Bt.step rfl (fun K1 hK1=>?_);go_simp;refine(J9 d _ hd).mono ?_;rintro e W2 ⟨rfl,hb⟩;replace A:=A.below hb;replace U:=U.below hb;replace L:Below w w W2:=L.trans (hb.mono L.size);clear hb;cases t7:Br d 40
 ·refine hK1 _ _ ?_;clear hK1 K1;refine Bt.falls 2 31 rfl (by kernel_rfl) (fun T hT=>?_);go_wp2;go_ret;exact⟨DD hT (by simp[Fc,t2,t3,t4,t5,t6,t7]),L⟩
 refine hK1 _ _ ?_;clear hK1 K1;try simp only[ap,List.set]
 refine Bt.tk 43 54 (.bool true) ?_;simp only[ap,List.set];refine Bt.tk 44 55 (.bool true) ?_;simp only[ap,List.set];refine Bt.tk 45 56 (.pointer (some ⟨PU,3,none⟩)) ?_;simp only[ap,List.set];refine Bt.tk 46 57 (.bool ud) ?_ (hv:=by obtain⟨c0,c1,c2,c3,c4,c5,c6,c7,c8,c9⟩:=A.jE;obtain⟨v0,v1,v2,v3,v4,v5⟩:=U.six;go_simp);simp only[ap,List.set];refine Bt.tk 47 58 (.bool ud) ?_;simp only[ap,List.set];refine Bt.opt [59,60,61,62] (fun xs W=>(∃x y z,xs=[x,y,z,.bool (ud||JO d)])/\Ah W w (.cells n1 32)/\Ah W PU n2/\Below w w W) 52 ?_ (fun REST=>?_);rotate_left
 ·cases ud
  ·skip;refine Bt.tk 48 59 n7 ?_;simp only[ap,List.set];refine Bt.tk 49 60 (.string d) ?_ (hv:=by obtain⟨c0,c1,c2,c3,c4,c5,c6,c7,c8,c9⟩:=A.jE;obtain⟨v0,v1,v2,v3,v4,v5⟩:=U.six;go_simp);simp only[ap,List.set];refine Bt.tk 50 61 (.bool (JO d)) ?_ (hv:=by unfold JO;go_simp);simp only[ap,List.set];refine Bt.tk 51 62 (.bool (JO d)) ?_;simp only[ap,List.set];exact REST _ _ ⟨⟨_,_,_,rfl⟩,A,U,L⟩
  ·refine Bt.pass (j:=51) 3 rfl (by kernel_rfl) ?_;refine Bt.tk 51 62 (.bool true) ?_;simp only[ap,List.set];exact REST _ _ ⟨⟨undef,undef,undef,rfl⟩,A,U,L⟩
 clear A U L;rintro xs W ⟨⟨x,y,z,rfl⟩,A,U,L⟩;simp only[Qd,ap,List.set];cases t8:(ud||JO d)
 ·refine Bt.falls 2 22 rfl (by kernel_rfl) (fun T hT=>?_);go_wp2;go_ret;exact⟨DD hT (by simp[Fc,t2,t3,t4,t5,t6,t7,t8]),L⟩
 refine Bt.tk 52 63 (.bool true) ?_;simp only[ap,List.set];refine Bt.tk 53 64 (.bool true) ?_;simp only[ap,List.set];refine Bt.tk 54 65 (.pointer (some ⟨w,2,none⟩)) ?_;simp only[ap,List.set];refine Bt.tk 55 66 (.int .i64 id) ?_ (hv:=by obtain⟨c0,c1,c2,c3,c4,c5,c6,c7,c8,c9⟩:=A.jE;obtain⟨v0,v1,v2,v3,v4,v5⟩:=U.six;go_simp);simp only[ap,List.set];refine Bt.tk 56 67 (.pointer PU) ?_;simp only[ap,List.set];refine Bt.tk 57 68 (.bool ui) ?_ (hv:=by obtain⟨c0,c1,c2,c3,c4,c5,c6,c7,c8,c9⟩:=A.jE;obtain⟨v0,v1,v2,v3,v4,v5⟩:=U.six;go_simp);simp only[ap,List.set];refine Bt.step rfl (fun K1 hK1=>?_);go_simp;refine(Kl _ _ _).mono ?_;rintro e W2 ⟨rfl,hb⟩;subst hb;cases t9:MK id ui
 ·refine hK1 _ _ ?_;clear hK1 K1;refine Bt.falls 2 15 rfl (by kernel_rfl) (fun T hT=>?_);go_wp2;go_ret;exact⟨DD hT (by simp[Fc,t2,t3,t4,t5,t6,t7,t8,t9]),L⟩
 refine hK1 _ _ ?_;clear hK1 K1;try simp only[ap,List.set]
 refine Bt.tk 59 70 (.bool true) ?_;simp only[ap,List.set];refine Bt.tk 60 71 (.bool true) ?_;simp only[ap,List.set];refine Bt.tk 61 72 (.pointer (some ⟨w,3,none⟩)) ?_;simp only[ap,List.set];refine Bt.tk 62 73 (.int .i64 to') ?_ (hv:=by obtain⟨c0,c1,c2,c3,c4,c5,c6,c7,c8,c9⟩:=A.jE;obtain⟨v0,v1,v2,v3,v4,v5⟩:=U.six;go_simp);simp only[ap,List.set];refine Bt.tk 63 74 (.pointer (some ⟨PU,1,none⟩)) ?_;simp only[ap,List.set];refine Bt.tk 64 75 (.bool ut) ?_ (hv:=by obtain⟨c0,c1,c2,c3,c4,c5,c6,c7,c8,c9⟩:=A.jE;obtain⟨v0,v1,v2,v3,v4,v5⟩:=U.six;go_simp);simp only[ap,List.set];refine Bt.step rfl (fun K1 hK1=>?_);go_simp;refine(Kl _ _ _).mono ?_;rintro e W2 ⟨rfl,hb⟩;subst hb;cases t10:MK to' ut
 ·refine hK1 _ _ ?_;clear hK1 K1;refine Bt.falls 2 8 rfl (by kernel_rfl) (fun T hT=>?_);go_wp2;go_ret;exact⟨DD hT (by simp[Fc,t2,t3,t4,t5,t6,t7,t8,t9,t10]),L⟩
 refine hK1 _ _ ?_;clear hK1 K1;try simp only[ap,List.set]
 refine Bt.tk 66 77 (.bool true) ?_;simp only[ap,List.set];refine Bt.tk 67 78 (.bool true) ?_;simp only[ap,List.set];refine Bt.tk 68 79 (.agg n1) ?_ (hv:=by obtain⟨c0,c1,c2,c3,c4,c5,c6,c7,c8,c9⟩:=A.jE;obtain⟨v0,v1,v2,v3,v4,v5⟩:=U.six;go_simp);simp only[ap,List.set];refine Bt.tk 69 80 (.pointer (some ⟨PU,2,none⟩)) ?_;simp only[ap,List.set];refine Bt.tk 70 81 (.bool uc) ?_ (hv:=by obtain⟨c0,c1,c2,c3,c4,c5,c6,c7,c8,c9⟩:=A.jE;obtain⟨v0,v1,v2,v3,v4,v5⟩:=U.six;go_simp);simp only[ap,List.set];refine Bt.step rfl (fun K1 hK1=>?_);go_simp;refine(Wr _ _ _ _ _ _ _ _ _ _ _ _ _ _ _ _).mono ?_;rintro e W2 ⟨rfl,hb⟩;replace A:=A.below hb;replace U:=U.below hb;replace L:Below w w W2:=L.trans (hb.mono L.size);clear hb;refine hK1 _ _ ?_;clear hK1 K1;try simp only[ap,List.set]
 refine Bt.tk 72 83 (.bool (OF kind cat uc)) ?_;simp only[ap,List.set];refine Bt.tk 73 2 (.bool (OF kind cat uc)) ?_;simp only[ap,List.set];refine Bt.done (Nat.le_of_eq (by rfl)) ?_;go_wp2;go_ret;exact⟨Ag (by simp[Fc,t2,t3,t4,t5,t6,t7,t8,t9,t10]),L⟩
theorem YG(t:Ae)(x:Int)(P:Nat)(w:World)(hP:w.cell? ⟨P,0,none⟩=some (.int .i64 x))(hl:P<w.heap.size):
 Calls prog 72 #[.agg t,.pointer P] w fun e w'=>e= .returned (.bool (t.id==x))/\Below w w w':=by
 have b0:=Be w (.cells t 57);have h1:=(b0.cell (p:=⟨P,0,none⟩) hl).trans hP;go_enter func72,ntmps72
 go_wp2;go_ret;exact⟨rfl,b0⟩
theorem Ps(a:Option Addr)(n cap:Nat)(T:Nat->Ae)(x:Int)(P:Nat)(w:World)(hn:n<=maxLen)(hT:It w a n T)(hP:w.cell? ⟨P,0,none⟩=some (.int .i64 x))(hl:P<w.heap.size):
 Calls prog 71 #[.slice a n cap,.func (.func 72) #[] #[.pointer P]] w fun e w'=>e= .returned (.int .i64 (GB (Bl (fun i=>(T i).id) n x)))/\Below w w w':=by
 unfold maxLen at hn;have HT:=hid hT;clear hT;go_enter func71,ntmps71
 go_wp2;go_loopw [8] (fun i wr=>∃q:Nat,q<=n/\i= .int .i64 q/\Hid (∀j,j<q->(T j).id≠x)/\Below w w wr) (fun i _=>n-(intOf i).toNat)
 case atStart=>exact⟨0,Nat.zero_le _,rfl,hid (fun j hj=>by omega),Below.refl _ _⟩
 case round=>
  obtain⟨q,hq,rfl,HA,hB⟩:=hrel;by_cases hlt:q<n
  ·obtain⟨b,off,rfl,_,hcc⟩:=HT.out.below hB (by omega);obtain⟨⟨q0,q1,q2,q3,q4,q5,q6⟩,ht⟩:=hcc q hlt;simp only[Au.val,AI.val]at q2 q4 q5;have i1:(q:Int)<(n:Int):=(by omega);have hp:=(hB.cell (p:=⟨P,0,none⟩) hl).trans hP;have C1:=hid (YG (T q) x P wr hp (Nat.lt_of_lt_of_le hl hB.size));clear hcc ht;by_cases e:(T q).id=x
   ·have HF:=hid (IV (ids:=fun i=>(T i).id) hlt e HA);have e':((T q).id==x)=true:=(by simpa using e);rw[e']at C1;clear e HA e';go_wp2_with(go_at_call 72;refine C1.out.mono ?_;rintro e w1 ⟨rfl,hb1⟩;have B1:=Af hB hb1)
    go_ret;exact⟨Fa (by rw[HF.out];rfl),B1⟩
   ·have e':((T q).id==x)=false:=(by simpa using e);have HA2:Hid (∀j,j<q+1->(T j).id≠x):=hid (fun j hj=>by
     by_cases ej:j=q
     ·subst ej;exact e
     ·exact HA.out j (by omega))
    rw[e']at C1;clear e HA e';go_wp2_with(go_at_call 72;refine C1.out.mono ?_;rintro e w1 ⟨rfl,hb1⟩;have B1:=Af hB hb1)
    exact⟨⟨q+1,by omega,by go_num,HA2,B1⟩,by simp[intOf];omega⟩
  ·have i1:¬(q:Int)<(n:Int):=(by omega);have HF:=hid (KU (ids:=fun i=>(T i).id) (n:=n) (x:=x) (fun j hj=>HA j (by omega)));clear HA;go_wp2;go_ret;exact⟨Fa (by rw[HF.out];rfl),hB⟩
theorem MU(a:Option Addr)(n cap:Nat)(T:Nat->Ae)(x:Int)(w:World)(hn:n<=maxLen)(hT:It w a n T):
 Calls prog 43 #[.slice a n cap,.int .i64 x] w fun e w'=>e= .returned (.int .i64 (GB (Bl (fun i=>(T i).id) n x)))/\Below w w w':=by
 have b0:Below w w (w.alloc (.cells #[.int .i64 x] 2)):=Be w _;have A0:=Ah.new w (.cells #[.int .i64 x] 2);have C1:=hid (Ps a n cap T x w _ hn (hT.below b0) (A0.c0 0 rfl) A0.lt);clear hT;go_enter func43,ntmps43
 go_wp2_with(go_at_call 71;refine C1.out.mono ?_;rintro e w1 ⟨rfl,hb1⟩;have B1:=Af b0 hb1)
 go_ret;exact⟨rfl,B1⟩
end Go.Proofs.YtefoofaocbjdoaaGreatDoor
