import Derived.Lib.Join
import Derived.Test.YtdaccbddcjlkpaaGreatDoorZ32p
set_option maxRecDepth 100000
set_option maxHeartbeats 16000000
namespace Go.Proofs.YtdaccbddcjlkpaaGreatDoor
open Go Go.RowKit Go.Deep Go.Maps Go.BigFrame Go.Shelf Go.Proofs.Tryz
open Go.Value renaming slice→qV
open Go.Obj renaming cells→qG
open _root_.List renaming set→qF
def Ym(w0:World)(rb:Nat)(a:Option Addr)(n cap:Nat)(w:World)(h:Rd w0 w rb a n cap):
 Calls prog 11 #[.pointer rb,.int .i64 10] w fun e w'=>∃(lt:List Ae) (lo:List Ab) (g ca q co:Nat) (va:Option Addr) (vc:Nat) (L:List Aj) (b:Int) (c:As),e= .returned (.tuple #[.agg #[qV g lt.length ca,qV q lo.length co],qV va L.length vc,.agg #[.int .i64 b,c]])/\Bz w' w (qV g lt.length ca) (qV q lo.length co) lt lo/\Jn lt lo/\L.length<=10/\Qw w' w (qV va L.length vc) L/\Rd w0 w' rb a n cap/\w.grownBy w' (some rb):=by
 have lr:=h.lt;have HW:=qC (show w0.heap.size<=w.heap.size from h.E.size);have n4:No (qG #[.int .i64 0,qV none 0 0] 42):=⟨⟩;have n5:No (qG #[qV none 0 0,qV none 0 0] 27):=⟨⟩;have R0:=qC (((Ib.refl h).alloc n5).alloc n4);have Z0:=qC ((Ag.new w n5).alloc n4);have Y0:Hid (Ag ((w.alloc n5).alloc n4) (w.heap.size+1) n4):=qC (by have:=Ag.new (w.alloc n5) n4;simpa using this);clear h;go_enter func11,ntmps11
 go_wp2_with fail
 generalize (w.alloc n5).alloc n4=w1 at *;refine(RE w0 rb a n cap w1 R0.out.r 8 qQ).mono ?_;rintro e w2 ⟨lt,lo,g,ca,q,co,rfl,ks,kd,r2,g2⟩;have s1:=R0.out.g.size;have s2:w.heap.size+1<w1.heap.size:=Y0.out.lt;have R2:=qC (R0.out.call r2 g2);have Z2:=qC (Z0.out.grown g2 sO);have Y2:=qC (Y0.out.grown g2 sO);have KS:=qC (ks.base s1);have KD:=qC kd;have s3:=g2.size;clear ks kd r2 g2 R0 Z0 Y0;go_upto_region 4 with fail
 have n2:No (qG #[qV g lt.length ca,qV q lo.length co] 27):=⟨⟩;have n8:Nw ((w2.alloc n2).alloc (qG #[] 50)):=⟨⟩;have b3:Below w2 w2 ((n8:World).alloc n2):=((Bg w2 _).alloc sI _).alloc sO _;have n6:Nv (qV g lt.length ca):=⟨⟩;have n7:Nv (qV q lo.length co):=⟨⟩;have D0:Hid (QW w0 w ((n8:World).alloc n2) rb a n cap w2 (w2.heap.size+2) n6 n7 n6 n7 (qV (some ⟨w2.heap.size+1,0,none⟩) 0 0) []):=qC ⟨R2.out.below b3,Z2.out.below b3,Y2.out.below b3,((Ag.new w2 _).alloc _).alloc _,by have:=Ag.new n8 n2;simpa using this,by have:=(Dh.made (w2.alloc n2) w sO).below ((Below.refl _ _).alloc nr n2);simpa using this,fun s hs=>(nomatch hs),by omega,by omega⟩;have K3:=qC (KS.out.below b3);clear b3 R2 Z2 Y2 KS;generalize (n8:World).alloc n2=w3 at *;generalize w2.heap.size=P at *;go_wp2_with fail
 refine(AF w0 rb a n cap 11 _ qQ D0.out.rs.r).mono ?_;rintro e w4 ⟨x,rfl,_,hx,r4,g4⟩;have x11:=hx qQ;have D4:=qC (D0.out.call lr r4 g4);have K4:=qC (K3.out.jX g4 lr);clear r4 g4 hx D0 K3;go_wp2_with fail
 go_loopw [8,10,11] (fun v i _ wr=>∃(j:Nat) (lt':List Ae) (lo':List Ab) (ga qa:Option Addr) (ca' co':Nat) (L:List Aj),L.length+j<=10/\i= .int .i64 j/\Hid (QW w0 w wr rb a n cap P (P+2) n6 n7 (qV ga lt'.length ca') (qV qa lo'.length co') v L)/\Hid (Bz wr w n6 n7 lt lo)/\Hid (Bz wr w (qV ga lt'.length ca') (qV qa lo'.length co') lt' lo')/\Hid (YO lt' lo')) (fun _ i _ _=>(intOf i).toNat)
 case atStart=>exact⟨x,lt,lo,_,_,ca,co,[],by simp;omega,rfl,D4,K4,K4,qC KD.out.stG⟩
 case round=>
  clear D4 K4;obtain⟨j,lt',lo',ga,qa,ca',co',L,hj,rfl,D,K0,K1,G⟩:=hrel;by_cases hlt:0<j
  ·have i1:(0:Int)<(j:Int):=qQ;have HLT:=qC hlt;obtain⟨y0,y1⟩:=D.out.q.two;clear hlt;go_wp2_with fail
   refine(OZ w0 rb a n cap wr D.out.rs.r lt' lo' ga qa ca' co' w K1 lr G).mono ?_;rintro e w5 ⟨s,rfl,sa,r5,g5⟩;have S5:=qC (⟨sa.1,sa.2.1,sa.2.2.1⟩:s.c1.new 0 w5/\s.c2.new 0 w5/\s.data.size<=100);have D5:=qC (D.out.call lr r5 g5);have K05:=qC (K0.out.jX g5 lr);have K15:=qC (K1.out.jX g5 lr);clear sa r5 g5 y0 y1 D K0 K1;go_upto_region 8 with fail
   have n1:No (qG s 50):=⟨⟩;have b6:Below w5 w5 (w5.alloc n1):=Bg w5 _;have B6:=qC (Ag.new w5 n1);have D6:=qC (D5.out.below b6);have K06:=qC (K05.out.below b6);have K16:=qC (K15.out.below b6);have S6:Hid (s.c1.new 0 (w5.alloc n1)/\s.c2.new 0 (w5.alloc n1)/\s.data.size<=100):=qC ⟨S5.out.1.below b6,S5.out.2.1.below b6,S5.out.2.2⟩;have l5:=D5.out.rs.g.size;have OL:=qC (fun x e=>(World.ownsRow.lt D5.out.row x e).2);clear b6 D5 K05 K15 S5;generalize w5.alloc n1=w6 at *;generalize w5.heap.size=q6 at *;obtain⟨va,vc,rfl⟩:=D6.out.row.shape;have b7:Below w6 w6 (w6.alloc n1):=Bg w6 _;have B7:=qC (B6.out.below b7);have D7:=qC (D6.out.below b7);have K07:=qC (K06.out.below b7);have K17:=qC (K16.out.below b7);have S7:Hid (s.c1.new 0 (w6.alloc n1)/\s.c2.new 0 (w6.alloc n1)/\s.data.size<=100):=qC ⟨S6.out.1.below b7,S6.out.2.1.below b7,S6.out.2.2⟩;have LA:=qC (Dh.one w6 s);have lA:L.length<=1048576:=qQ;have sA:w.heap.size<=(w6.alloc n1).heap.size:=D7.out.rs.g.size;obtain⟨c0,c1,c2,c3,c4,c5,c6,c7,c8,c9⟩:=B6.out.jE;clear b7 D6 K06 K16 S6 B6;go_wp2_with(refine KC _ rfl _ _ rfl w (qV va L.length vc) L rfl D7.out.row (some ⟨w6,0,none⟩) 1 s rfl LA lA sA ?_;intro a3 c3' w8 o3 g3;have D8:=D7.out.grow lr HW o3 g3 (fun t ht=>by rcases List.mem_append.1 ht with h|h;exact D7.out.lab t h;rw[List.mem_singleton.1 h];exact S7.out);have K08:=K07.out.rowGrow D7.out.row g3;have K18:=K17.out.rowGrow D7.out.row g3;have B8:=B7.out.grown g3 (fun e=>by have:=OL.out _ e.symm;omega);obtain⟨c0,c1,c2,c3,c4,c5,c6,c7,c8,c9⟩:=B8.jE;obtain⟨y0,y1⟩:=D8.q.two)
   refine(ZJ K18 G D8.rs.g.size (by have l:=D8.lab s sI;exact⟨l.1.1,l.2.1.1,Nat.le_trans l.2.2 (by unfold maxLen;omega)⟩)).mono ?_;rintro e w9 ⟨lt2,lo2,ta,oa,ca2,co2,c,tx,rfl,k9,g9,b9⟩;have D9:=qC (D8.below b9);have K09:=qC (K08.below b9);have K19:=qC k9;have G9:=qC g9;obtain⟨z0,z1⟩:=D9.out.q.two;have zf:=D9.out.q.jC;clear k9 g9 b9 D8 K08 K18 y0 y1 c0 c1 c2 c3 c4 c5 c6 c7 c8 c9 B8;go_wp2_with fail
   go_roundw;case rel=>
    have d:=(D9.out.set0 (u:= qV ta lt2.length ca2) lr HW).set1 (u:= qV oa lo2.length co2) lr HW.out;refine⟨j-1,lt2,lo2,ta,oa,ca2,co2,L++[s],by have:=HLT.out;simp;omega,by have:=HLT.out;go_num,qC (by simpa using d),qC ((K09.out.set D9.out.q (.inl rfl) _).set (D9.out.q.jB _) (.inl rfl) _),qC ((K19.out.set D9.out.q (.inl rfl) _).set (D9.out.q.jB _) (.inl rfl) _),G9⟩
   case measure=>have:=HLT.out;simp[intOf];omega
  ·obtain⟨va,vc,rfl⟩:=D.out.row.shape;have n3:Na #[qV g lt.length ca,qV q lo.length co]:=⟨⟩;have DP:=qC (fun W (hb:Ib w0 w W rb a n cap/\Ag W P (qG n3 27))=>hb);have E1:Hid (∀args w,(callFunc 29 args).run prog w= .ok (.enter 29 args) w):=qC (enters_of func29 kR rfl);go_upto_region 10 with fail
   have DD:=qC (D.out.below (Az (Below.refl _ wr)));have KD0:=qC (K0.out.below (Az (Below.refl _ wr)));have S0:=qC (show Ib w0 w wr.drew rb a n cap/\Ag wr.drew P (qG n3 27) from⟨DD.out.rs,DD.out.p⟩);refine Am 6 (fun W=>Ib w0 w W rb a n cap/\Ag W P (qG n3 27)) kR ?_;refine tr 0 38 (.agg n3) S0 ?_ (hy:=fun W h=>by obtain⟨x0,x1⟩:=h.2.two;go_simp);refine tr 1 39 (qV va L.length vc) S0 ?_;refine tr 2 40 (.pointer rb) S0 ?_;generalize wr.drew=WD at *;refine Ac (i:=3) kR rfl ?_;intro K hK;refine An qK 29 _ _ qK E1 _ qK (some 41) qK _ ((XL w0 rb a n cap WD S0.out.1.r).mono fun e w' ⟨b,c,he,_,_,r,gr⟩=>(⟨_,he,b,c,rfl,r,gr⟩:∃v,e= .returned v/\∃(b:Int) (c:As),v= .agg #[.int .i64 b,c]/\Rd w0 w' rb a n cap/\WD.grownBy w' (some rb))) ?_;rintro v w5 ⟨b,c,rfl,r5,g5⟩;have D5:=qC (DD.out.call lr r5 g5);have K5:=qC (KD0.out.jX g5 lr);have E5:=qC (aU.of D5 K5);have LN:=qC hj;clear D5 K5 D K0 K1 DD KD0 S0 DP;refine hK _ _ (fun _=>⟨E5.out.rs,E5.out.p⟩) ?_;clear hK K r5 g5;simp only[ap,qF];obtain⟨z0,z1⟩:=E5.out.z.two;have zf:=E5.out.z.jC;refine Ac (i:=4) kR rfl ?_;intro K hK;go_simp;have n9:Nv (qV g lt.length ca):=⟨⟩;have n10:Nv (qV q lo.length co):=⟨⟩;have E6:=qC ((E5.out.setZ lr 0 n9).setZ lr 1 n10);refine hK _ _ (fun _=>⟨E6.out.rs,E6.out.p⟩) ?_;clear hK K E5 z0 z1 zf;try simp only[ap,qF]
   generalize (w5.setCell ⟨w,0,none⟩ n9).setCell ⟨w,1,none⟩ n10=w6 at *;refine Ac (i:=5) kR rfl ?_;intro K hK;go_simp;refine hK _ _ (fun _=>⟨E6.out.rs,E6.out.p⟩) ?_;clear hK K;try simp only[ap,qF]
   obtain⟨y0,y1⟩:=E6.out.y.two;have yf:=E6.out.y.jC;refine Ac (i:=6) kR rfl ?_;intro K hK;go_simp;refine hK _ _ nA ?_;clear hK K;try simp only[ap,qF]
   have E7:=qC ((E6.out.setY lr 0 (.int .i64 b)).setY lr 1 (qV c.a c.n c.k));refine Ai kR ?_ _;go_wp2_with fail
   refine bodyPost_ret (Uf _ _ w (w.heap.size+1) _ _ _ _ _ E7.out.z E7.out.y qK qK qK) rfl ⟨lt,lo,g,ca,q,co,va,vc,L,b,c,rfl,E7.out.k,KD,by have:=LN.out;omega,⟨E7.out.row,E7.out.lab⟩,E7.out.rs.r,E7.out.rs.g⟩
def Ny(tmps:Array Value)(W:World)(P:Nat)(x y v:Value)(h:Ag W P (.cells #[x,y] 27))(h2:tmps[2]? =some (.pointer P))(h3:tmps[3]? =some v):
 (results Tryz.f5 tmps).run prog W= .ok (.tuple #[.agg #[x,y],v]) W:=by
 obtain⟨z0,z1⟩:=h.two;simp[results,Tryz.results5,go_sem,h2,h3,z0,z1]
def Tl(a:Option Addr)(n cap:Nat)(w:World)(hn:n<=1048576)(hb:BytesAt w a n):
 Calls prog 5 #[qV a n cap] w fun e w'=>∃(lt:List Ae) (lo:List Ab) (g ca q co:Nat) (va:Option Addr) (vc:Nat) (L:List Aj),e= .returned (.tuple #[.agg #[qV g lt.length ca,qV q lo.length co],qV va L.length vc])/\Bz w' w (qV g lt.length ca) (qV q lo.length co) lt lo/\Jn lt lo/\L.length<=10/\Qw w' w (qV va L.length vc) L/\Below w w w':=by
 have n2:No (.cells #[qV none 0 0,qV none 0 0] 27):=⟨⟩;have R0:=qC (Ag.new w n2);have B0:=qC ((Below.refl _ w).alloc nr n2);have HB:=qC (hb.below B0);clear hb;go_enter func5,ntmps5
 go_wp2_with fail
 generalize w.alloc n2=V at *;refine(Vs a n cap V hn HB).mono ?_;rintro e w1 ⟨rb,rfl,r1⟩;have R1:=qC r1;have l1:=r1.lt;have le1:=r1.le;have s0:=R0.out.lt;clear r1;go_wp2_with fail
 refine(Ym V rb a n cap w1 R1).mono ?_;rintro e w2 ⟨lt,lo,g,ca,q,co,va,vc,L,b,c,rfl,ks,kd,ln,rd,r2,g2⟩;have KD:=qC kd;have LN:=qC ln;have n1:No (.cells #[qV g lt.length ca,qV q lo.length co] 27):=⟨⟩;have n3:No (.cells #[.int .i64 b,c] 42):=⟨⟩;have b3:Below w2 w2 ((w2.alloc n1).alloc n3):=(Bg w2 _).alloc sI _;have K3:=qC (ks.below b3);have D3:=qC (rd.below b3);have R3:=qC ((R0.out.below r2.E).below b3);have B3:=qC (Af (Af B0 r2.E) b3);have C3:=qC ((Ag.new w2 n1).alloc n3);clear ks kd rd r2 g2 b3 R1 ln;go_upto_region 3 with fail
 generalize (w2.alloc n1).alloc n3=W3 at *;obtain⟨z0,z1⟩:=C3.out.two;obtain⟨r0,r1⟩:=R3.out.two;have rf:=R3.out.jC;go_wp2_with fail
 refine bodyPost_ret (Ny _ _ w _ _ _ ((R3.out.jB (i:=0) _).jB (i:=1) _) qK qK) rfl ⟨lt,lo,g,ca,q,co,va,vc,L,rfl,?_,KD,LN,?_,?_⟩
 ·exact((K3.out.set R3 (.inl rfl) _).set (R3.out.jB _) (.inl rfl) _).base qQ
 ·have d:=(D3.out.set R3 (i:=0) (qV g lt.length ca)).set (R3.out.jB _) (i:=1) (qV q lo.length co);exact⟨d.row.base qQ,d.lab⟩
 ·exact(B3.out.setCell (p:=⟨w,0,none⟩) sI _).setCell (p:=⟨w,1,none⟩) sI _
open _root_.Nat renaming lt_of_lt_of_le→qv
open _root_.List renaming length_append→jG
def Je(x:Int)(w:World)(h0:0<=x)(h1:x<=10000000000):
 Calls prog 17 #[.int .i64 x] w fun e w'=>e= .returned (.string ⟨(Dd x.toNat).toArray⟩)/\Below w w w':=by
 obtain⟨n,rfl⟩:=Int.eq_ofNat_of_zero_le h0;exact Kf n w qQ
def FU(f g:Nat->Int)(k:Nat):List (Int×Int):=(List.range k).map fun i=>(f i,g i)
def JO(f g:Nat->Int)(k:Nat):FU f g (k+1)=FU f g k++[(f k,g k)]:=by simp[FU,List.range_succ]
def bV(base:Int)(f g:Nat->Int)(k:Nat)(hb:base.toNat<=10000000000)(hc:∀i,i<k->(f i).toNat<=10000000000/\(g i).toNat<=10000000000):(Xh base (FU f g k)).length<=10000000001+k*20000000010:=by
 induction k with
 |zero=>simp[Xh,FU];have:=Gj base.toNat;omega
 |succ k ih=>
  rw[JO,Po,jG];have:=ih (fun i hi=>hc i qQ);have h1:=Gj (f k).toNat;have h2:=Gj (g k).toNat;have h3:=hc k qQ;simp only[N7,List.length_cons,jG];omega
def We(base:Int)(a:Option Addr)(n cap:Nat)(f g:Nat->Int)(w:World)(hn:n<=12)(hc:Bd w a n f g)(hb:0<=base/\base<=10000000000)(hf:∀i,i<n->0<=f i/\f i<=10000000000)(hg:∀i,i<n->0<=g i/\g i<=10000000000):
 Calls prog 18 #[.agg #[.int .i64 base,.slice a n cap]] w fun e w'=>e= .returned (.string ⟨(Xh base (FU f g n)).toArray⟩)/\Below w w w':=by
 have n1:No (.cells #[.int .i64 base,.slice a n cap] 42):=⟨⟩;have L0:=(Below.refl _ w).alloc nr n1;have A0:=Ag.new w n1;obtain⟨x1,x2⟩:=A0.two;go_enter func18,ntmps18
 go_wp2_with fail
 refine(Je base _ hb.1 hb.2).mono ?_;rintro e w1 ⟨rfl,hb1⟩;have A1:=A0.below hb1;have L1:Below w w w1:=L0.trans (hb1.mono L0.size);have hc1:=hc.below L1;clear x1 x2 A0 L0 hb1;go_wp2_with fail
 go_loopw [3,4] (fun s i wr=>∃k:Nat,k<=n/\i= .int .i64 k/\s= .string ⟨(Xh base (FU f g k)).toArray⟩/\Below w1 w1 wr) (fun _ i _=>n-(intOf i).toNat)
 case atStart=>exact⟨0,Nat.zero_le _,rfl,by simp[Xh,FU],Below.refl _ _⟩
 case round=>
  obtain⟨k,hk,rfl,rfl,hB⟩:=hrel;have lk:=bV base f g k qQ (fun i hi=>by have:=hf i qQ;have:=hg i qQ;omega);have Ar:=A1.below hB;obtain⟨x1,x2⟩:=Ar.two;by_cases hlt:k<n
  ·have hki:(k:Int)<(n:Int):=qQ;obtain⟨b,off,rfl,hbl,hcc⟩:=hc1 qQ;obtain⟨c1,c2⟩:=hcc k hlt;have g1:wr.cell? ⟨b,off+k*2,none⟩=some (.int .i64 (f k)):=(hB.cell (p:=⟨b,_,none⟩) hbl).trans c1;have g2:wr.cell? ⟨b,off+k*2+1,none⟩=some (.int .i64 (g k)):=(hB.cell (p:=⟨b,_,none⟩) hbl).trans c2;have hf0:=hf k hlt;have hg0:=hg k hlt;have hD1:=Gj (f k).toNat;have hD2:=Gj (g k).toNat;have P1:Hid (∀v:World,Calls prog 17 #[.int .i64 (f k)] v fun e w'=>e= .returned (.string ⟨(Dd (f k).toNat).toArray⟩)/\Below v v w'):=fun v=>Je (f k) v hf0.1 hf0.2;have P2:Hid (∀v:World,Calls prog 17 #[.int .i64 (g k)] v fun e w'=>e= .returned (.string ⟨(Dd (g k).toNat).toArray⟩)/\Below v v w'):=fun v=>Je (g k) v hg0.1 hg0.2;have HT:Hid (Xh base (FU f g (k+1))=Xh base (FU f g k)++44::(Dd (f k).toNat++58::Dd (g k).toNat)):=by
    show _=_;rw[JO,Po];rfl
   have Ad:Ag wr.drew w (.cells #[.int .i64 base,.slice (some ⟨b,off,none⟩) n cap] 42):=Ar;have hbd:b<wr.drew.heap.size:=qv hbl hB.size;have gd1:wr.drew.cell? ⟨b,off+k*2,none⟩=some (.int .i64 (f k)):=g1;have gd2:wr.drew.cell? ⟨b,off+k*2+1,none⟩=some (.int .i64 (g k)):=g2;clear hc hc1 hcc hf hg c1 c2;generalize hT:Xh base (FU f g k)=T at *;generalize hE1:Dd (f k).toNat=D1 at *;generalize hE2:Dd (g k).toNat=D2 at *;generalize f k=fk at *;generalize g k=gk at *;have hD1':D1.length<=10000000001:=qQ;have hD2':D2.length<=10000000001:=qQ;have lk':T.length<=1000000000000:=qQ;have r1:¬9223372036854775807<T.length+1:=qQ;have r2:¬9223372036854775807<T.length+1+D1.length:=qQ;have r3:¬9223372036854775807<T.length+1+D1.length+1:=qQ;have r4:¬9223372036854775807<T.length+1+D1.length+1+D2.length:=qQ;clear hT hE1 hE2 hD1 hD2 lk hf0 hg0;go_wp2_with fail
   go_region_held3(fun w'=>w'.cell? ⟨w,0,none⟩=some (.int .i64 base)/\w'.cell? ⟨w,1,none⟩=some (.slice (some ⟨b,off,none⟩) n cap)/\w'.cell? ⟨b,off+k*2,none⟩=some (.int .i64 fk)/\w'.cell? ⟨b,off+k*2+1,none⟩=some (.int .i64 gk)) (go_keep)
    (first
      |(go_at_call 17;have hq:=hb7;refine(P2 _).mono ?_;rintro e w8 ⟨rfl,hb8⟩;obtain⟨t1,t2⟩:=((Ad.below hb7).below hb8).two;have t3:=(hb8.cell (p:=⟨b,off+k*2,none⟩) (qv hbd hb7.size)).trans y3;have t4:=(hb8.cell (p:=⟨b,off+k*2+1,none⟩) (qv hbd hb7.size)).trans y4)
      |(go_at_call 17;refine(P1 _).mono ?_;rintro e w7 ⟨rfl,hb7⟩;obtain⟨y1,y2⟩:=(Ad.below hb7).two;have y3:=(hb7.cell (p:=⟨b,off+k*2,none⟩) hbd).trans gd1;have y4:=(hb7.cell (p:=⟨b,off+k*2+1,none⟩) hbd).trans gd2))
   go_wp2;go_roundw;case rel=>
    refine⟨k+1,by omega,by go_num,?_,(hB.drew.trans (hb7.mono hB.size)).trans (hb8.mono (Nat.le_trans hB.size hb7.size))⟩;have ea:(⟨#[44]⟩:ByteArray)=⟨[44].toArray⟩:=rfl;have eb:(⟨#[58]⟩:ByteArray)=⟨[58].toArray⟩:=rfl;rw[ea,eb,He,He,He,He,HT.out];simp
   case measure=>simp[intOf];omega
  ·have hki:¬(k:Int)<(n:Int):=qQ;have ek:k=n:=qQ;subst ek;go_wp2;go_ret;exact⟨rfl,L1.trans (hB.mono L1.size)⟩

def dV(b:Int):Option (List (Int×Int))->Int×List (Int×Int)×Bool
 |some cats=>if Bb b cats.length (Db cats) (Dc cats)=true then(b,cats,true)else(0,[],false)
 |none=>(0,[],false)
def Bo.nil(w:World)(B:Nat):Bo w B (.slice none 0 0) []:=AO.nil _ _ _ _
open _root_.Bool renaming and_eq_true→qz
def Lc{k:Av}(h:Bh k=true):Cr k.on k.O=true:=by
 simp only[Bh,qz]at h;exact h.1.1.1.2
def cx{k:Av}(h:Bh k=true){c:Nat}(hc:c<k.on)(h0:c≠0):∃u,Bq (fun i=>(k.O i).id) k.on (k.O c).up=some u:=by
 have hp:IJ k.on k.O=true:=by
  simp only[Bh,qz]at h;exact h.1.2
 have hu:=FI hp (c-1) qQ;have e:c-1+1=c:=by omega
 simp only[e]at hu;unfold Ga at hu;split at hu
 ·rename_i u hu';exact⟨u,hu'⟩
 ·cases hu
open _root_.List renaming length_cons→kN,range→qx,length_nil→zP,range_succ→kK
variable {b:Int}{c:As}{t:Ae}{o:Ab}{ks:List Int}{n i:Nat}{k:Av}
def Rx(k:Nat):∀n,n<10^(k+1)->(Dd n).length<=k+1:=by
 induction k with
 |zero=>intro n h;rw[Hy (by simpa using h)];simp
 |succ k ih=>
  intro n h;by_cases hs:n<10
  ·rw[Hy hs];simp
  ·rw[Lx hs,jG];have:=ih (n/10) (by rw[Nat.pow_succ]at h;omega);simp;omega
def dc(x:Int):List UInt8:=Dd x.toNat
def lb(b:Int)(c:As):List UInt8:=Xh b (FU c.f c.g c.n)
def bl(ns:List Int):List UInt8:=(ns.map fun x=>32::dc x).flatten
def FH(c:AJ):List Int:=(qx c.n).map c.h
def aY(ns:List Int)(x:Int):bl (ns++[x])=bl ns++32::dc x:=by simp[bl]
def small(x:Int):Prop:=0<=x/\x<=9999
def FQ{x:Int}(h:small x):(dc x).length<=4:=Rx 3 _ (by have:=h.2;have:=h.1;show x.toNat<10000;omega)
def Mv{ns:List Int}(h:∀x∈ns,small x):(bl ns).length<=5*ns.length:=by
 induction ns with
 |nil=>simp[bl]
 |cons x ns ih=>
  have h1:=ih (fun y hy=>h y (List.mem_cons_of_mem _ hy));have h2:=FQ (h x (List.mem_cons_self ..));have e:bl (x::ns)=(32::dc x)++bl ns:=by simp[bl]
  rw[e,jG,kN,kN];omega
def QV(h:Bb b c.n c.f c.g=true):small b/\c.n<=12/\∀i,i<c.n->small (c.f i)/\small (c.g i):=by
 obtain⟨h1,h2,h3⟩:=Kj h;have h1':=CY.1 h1;refine⟨⟨h1'.1,by have:=h1'.2;omega⟩,h2,fun i hi=>?_⟩;have:=h3 i hi;simp only[Dv,qz]at this;have f1:=CY.1 this.1.1.1;have g1:=CY.1 this.1.1.2;exact⟨⟨by omega,f1.2⟩,⟨g1.1,by omega⟩⟩
def JX(h:Bb b c.n c.f c.g=true):(lb b c).length<=200:=by
 obtain⟨h1,h2,h3⟩:=QV h;have key:∀k,k<=c.n->(Xh b (FU c.f c.g k)).length<=4+k*10:=fun k=>by
  induction k with
  |zero=>intro _;simp[Xh,FU];exact FQ h1
  |succ k ih=>
   intro hk;have:=ih qQ;have d1:=FQ (h3 k qQ).1;have d2:=FQ (h3 k qQ).2;unfold dc at d1 d2;rw[JO,Po,jG];simp only[N7,kN,jG];omega
 have:=key c.n nr;unfold lb;omega
def Dy{c:AJ}(h:Cf c.n c.h=true):c.n<=10/\∀x∈FH c,small x:=by
 obtain⟨h1,h2⟩:=Rk h;refine⟨h1,fun x hx=>?_⟩;unfold FH at hx;obtain⟨i,hi,rfl⟩:=List.mem_map.1 hx;have:=h2 i (List.mem_range.1 hi);simp only[Ef,qz]at this;have f1:=CY.1 this.1;exact⟨by omega,f1.2⟩
def Km(c:AJ):(FH c).length=c.n:=by simp[FH]
def cf:List UInt8:=[116,104,114,101,97,100]
def bX:List UInt8:=[111,98,106,101,99,116]
def dW:List UInt8:=[100,97,116,97]
def YV:List UInt8:=[105,116,101,109]
def Ku(ws:List (List UInt8)):List UInt8:=Lib.join ws [32]++[10]
def RX(t:Ae):List UInt8:=Ku ([cf,dc t.id,lb t.b1 t.c1,lb t.b2 t.c2,dc t.made]++(FH t.own).map dc)
def Iy(o:Ab)(ks:List Int):List UInt8:=Ku ([bX,dc o.id,dc o.kind,dc o.up,lb o.b1 o.c1,lb o.b2 o.c2]++(FH o.own).map dc++ks.map dc)
def JU(d:ByteArray):List UInt8:=if d.toList.isEmpty=true then[]else Ku [dW,d.data.toList]
def Iq(f:Nat->ByteArray)(j:Nat):List UInt8:=((qx j).map fun i=>Ku [YV,(f i).data.toList]).flatten
def Mr(f:Nat->ByteArray)(j:Nat):Iq f (j+1)=Iq f j++Ku [YV,(f j).data.toList]:=by simp[Iq,kK]
def objT(o:Ab)(ks:List Int):List UInt8:=Iy o ks++JU o.data++Iq o.jA.f o.jA.n
def Gn(T:Nat->Ae)(n:Nat):List UInt8:=((qx n).map fun i=>RX (T i)).flatten
def G6(O:Nat->Ab)(n:Nat):List UInt8:=((qx n).map fun i=>objT (O i) []).flatten
def Pz(T:Nat->Ae)(n:Nat):Gn T (n+1)=Gn T n++RX (T n):=by simp[Gn,kK]
def Ot(O:Nat->Ab)(n:Nat):G6 O (n+1)=G6 O n++objT (O n) []:=by simp[G6,kK]
def Hm(k:Av):ByteArray:=if Bh k=true then⟨(Gn k.T k.tn++G6 k.O k.on).toArray⟩else⟨#[]⟩
def UI(t:Ae):RX t=cf++[32]++dc t.id++[32]++lb t.b1 t.c1++[32]++lb t.b2 t.c2++[32]++dc t.made++bl (FH t.own)++[10]:=by
 unfold RX Ku;rw[List.cons_append,Lib.join_cons];simp[Lib.joinTail,bl,Function.comp_def]
def Vk(o:Ab)(ks:List Int):Iy o ks=bX++[32]++dc o.id++[32]++dc o.kind++[32]++dc o.up++[32]++lb o.b1 o.c1++[32]++lb o.b2 o.c2++bl (FH o.own)++bl ks++[10]:=by
 unfold Iy Ku;rw[List.cons_append,List.cons_append,Lib.join_cons];simp[Lib.joinTail,bl,Function.comp_def]
def Mf(a b:List UInt8):Ku [a,b]=a++[32]++b++[10]:=by
 unfold Ku;rw[Lib.join_cons];simp[Lib.joinTail]
def MD(h:C8 t=true):small t.id/\small t.made/\Bb t.b1 t.c1.n t.c1.f t.c1.g=true/\Bb t.b2 t.c2.n t.c2.f t.c2.g=true/\Cf t.own.n t.own.h=true:=by
 simp only[C8,Dz,qz]at h;have h1:=CY.1 h.1.1.1.1;have h5:=CY.1 h.2;exact⟨⟨by omega,by omega⟩,⟨h5.1,by omega⟩,h.1.1.1.2,h.1.1.2,h.1.2⟩
def ay(h:C8 t=true):(RX t).length<=1000:=by
 obtain⟨h1,h2,h3,h4,h5⟩:=MD h;have d1:=FQ h1;have d2:=FQ h2;have d3:=JX h3;have d4:=JX h4;have d5:=Mv (Dy h5).2;have d6:=(Dy h5).1;rw[Km]at d5;rw[UI];simp only[jG,cf,kN,zP];omega
def ME(h:CF o=true):Bb o.b1 o.c1.n o.c1.f o.c1.g=true/\Bb o.b2 o.c2.n o.c2.f o.c2.g=true/\Cf o.own.n o.own.h=true/\o.data.size<=40/\o.jA.n<=8/\(∀i,i<o.jA.n->(o.jA.f i).size<=40)/\small o.kind:=by
 simp only[CF,qz]at h;obtain⟨⟨⟨⟨⟨h1,h2⟩,h3⟩,h4⟩,h5⟩,h6⟩:=h;obtain⟨i1,i2⟩:=Wn h5;have p:∀{s:ByteArray},By s 40=true->s.size<=40:=fun hs=>by
  simp only[By,qz,decide_eq_true_eq]at hs;omega
 refine⟨h1,h2,h3,p h4,i1,fun i hi=>p (i2 i hi),?_⟩;unfold Hp at h6;unfold small;split at h6
 ·omega
 ·split at h6
  ·omega
  ·split at h6
   ·omega
   ·split at h6
    ·omega
    ·cases h6
def Uj(h:CF o=true)(h1:small o.id)(h2:small o.up)(hk:∀x∈ks,small x)(hn:ks.length<=271):(Iy o ks).length<=3000:=by
 obtain⟨p1,p2,p3,p4,p5,p6,p7⟩:=ME h;have d1:=FQ h1;have d2:=FQ h2;have d3:=FQ p7;have d4:=JX p1;have d5:=JX p2;have d6:=Mv (Dy p3).2;have d7:=(Dy p3).1;have d8:=Mv hk;rw[Km]at d6;rw[Vk];simp only[jG,bX,kN,zP];omega
def Vj{d:ByteArray}(h:d.size<=40):(JU d).length<=50:=by
 unfold JU;split
 ·simp
 ·rw[Mf];have:d.data.toList.length=d.size:=Array.length_toList;simp only[jG,dW,kN,zP];omega
def Uw{f:Nat->ByteArray}(h:∀i,i<n->(f i).size<=40):(Iq f n).length<=50*n:=by
 induction n with
 |zero=>simp[Iq]
 |succ n ih=>
  have h1:=ih (fun i hi=>h i qQ);have h2:=h n qQ;have:(f n).data.toList.length=(f n).size:=Array.length_toList;rw[Mr,jG,Mf];simp only[jG,YV,kN,zP];omega
def Sg(h:Bh k=true)(hi:i<k.on):small (k.O i).id:=by
 have hp:=h;simp only[Bh,qz]at hp;obtain⟨⟨⟨⟨ht,ho⟩,hn⟩,_⟩,_⟩:=hp;by_cases h0:i=0
 ·subst h0;rw[(Cy ho).1];exact⟨by omega,by omega⟩
 ·have ha:=FI hn (i-1) qQ;have e:i-1+1=i:=by omega
  simp only[e]at ha;have hpos:=Et ho i hi;cases hf:Bq (fun j=>(k.T j).id) k.tn ((k.O i).id/1000)with
  |none=>rw[Lg ht hf]at ha;cases ha
  |some t=>
   rw[Jg ht hf]at ha;obtain⟨t1,t2⟩:=AH hf;have t3:=(CZ ht).2.2 t t1;simp only[Ej,qz]at t3;obtain⟨s1,s2,_⟩:=MD t3.1;have a1:=CY.1 ha;have t2':(k.T t).id=(k.O i).id/1000:=t2;have qC:(k.T t).id<=9:=by
    have:=t3.1;simp only[C8,Dz,qz]at this;exact(CY.1 this.1.1.1.1).2
   exact⟨by omega,by omega⟩
def Zp(h:Bh k=true)(hi:i<k.on):small (k.O i).up:=by
 by_cases h0:i=0
 ·subst h0;rw[(Cy (Lc h)).2.2];exact⟨by omega,by omega⟩
 ·obtain⟨u,hu⟩:=cx h hi h0;obtain⟨u1,u2⟩:=AH hu;have u2':(k.O u).id=(k.O i).up:=u2;rw[<-u2'];exact Sg h u1
def SC(h:Bh k=true)(hi:i<k.tn):C8 (k.T i)=true:=by
 simp only[Bh,qz]at h;have:=(CZ h.1.1.1.1).2.2 i hi;simp only[Ej,qz]at this;exact this.1
def R6(h:Bh k=true)(hi:i<k.on):CF (k.O i)=true:=by
 have:=(Cv (Lc h)).2.2.1 i hi;simp only[Gd,qz]at this;exact this.1
def ai(h:Bh k=true):1<=k.tn/\k.tn<=9/\k.on<=271:=by
 have h2:=(Cv (Lc h)).2.1;simp only[Bh,qz]at h;have h1:=CZ h.1.1.1.1;exact⟨h1.1,h1.2.1,h2⟩
def QN{T:Nat->Ae}(h:∀i,i<n->C8 (T i)=true):(Gn T n).length<=1000*n:=by
 induction n with
 |zero=>simp[Gn]
 |succ n ih=>
  have h1:=ih (fun i hi=>h i qQ);have h2:=ay (h n qQ);rw[Pz,jG];omega
def Zr(h:CF o=true)(h1:small o.id)(h2:small o.up)(hk:∀x∈ks,small x)(hn:ks.length<=271):(objT o ks).length<=4000:=by
 obtain⟨_,_,_,p4,p5,p6,_⟩:=ME h;have d1:=Uj h h1 h2 hk hn;have d2:=Vj p4;have d3:=Uw p6;unfold objT;simp only[jG];omega
def Yn(h:Bh k=true)(hn:n<=k.on):(G6 k.O n).length<=4000*n:=by
 induction n with
 |zero=>simp[G6]
 |succ n ih=>
  have h1:=ih qQ;have h2:=Zr (ks:=[]) (R6 h (i:=n) qQ) (Sg h qQ) (Zp h qQ) (fun x hx=>by cases hx) sI;rw[Ot,jG];omega
def Av.wfs(k:Av):Prop:=∀i,i<k.on->(Lit.int .i64 (k.O i).id).wf=true/\(Lit.int .i64 (k.O i).up).wf=true
def Av.same.wfs{k l:Av}(h:k.same l)(hw:k.wfs):l.wfs:=fun i hi=>by
 obtain⟨h1,h2,h3,h4⟩:=h;rw[h3]at hi;rw[(h4 i hi).1,(h4 i hi).2.2.1];exact hw i hi
def Av.row.below{w w':World}{k:Av}(h:k.row w)(hb:Below w w w'):k.row w':=⟨h.1.below hb,h.2.below hb⟩
def Av.cells(k:Av):Array Value:=#[.slice k.ta k.tn k.tk,.slice k.oa k.on k.ok]
open _root_.ByteArray renaming mk→qD,size_append→kZ
open _root_.List renaming size_toArray→jj
def Dp(a:Array UInt8):(qD a).size=a.size:=rfl
def UR{a b:ByteArray}(h:a=b):Ending.returned (.string a)= .returned (.string b):=by rw[h]
def QX(x:Int)(w:World)(h:small x):Calls prog 17 #[.int .i64 x] w fun e w'=>e= .returned (.string ⟨(dc x).toArray⟩)/\Below w w w':=
 Je x w h.1 (by have:=h.2;omega)
def Xg(b:Int)(c:As)(w:World)(hc:c.at w)(h:Bb b c.n c.f c.g=true):Calls prog 18 #[.agg #[.int .i64 b,c.val]] w fun e w'=>e= .returned (.string ⟨(lb b c).toArray⟩)/\Below w w w':=by
 obtain⟨h1,h2,h3⟩:=QV h;exact We b c.a c.n c.k c.f c.g w h2 hc.2 ⟨h1.1,by have:=h1.2;omega⟩ (fun i hi=>⟨(h3 i hi).1.1,by have:=(h3 i hi).1.2;omega⟩) (fun i hi=>⟨(h3 i hi).2.1,by have:=(h3 i hi).2.2;omega⟩)
def Pw(c:AJ)(w:World)(hc:c.at w)(hs:∀i,i<c.n->small (c.h i))(hn:c.n<=1000):
 Calls prog 19 #[c.val] w fun e w'=>e= .returned (.string ⟨(bl (FH c)).toArray⟩)/\Below w w w':=by
 obtain⟨a,n,cap,h⟩:=c;simp only at hs hn;have HC:=qC hc.2;simp only at HC;unfold AJ.val FH;simp only;have HS:=qC hs;clear hc hs;go_enter func19,ntmps19
 go_wp2;go_loopw [3,4] (fun s i wr=>∃q:Nat,q<=n/\i= .int .i64 q/\s= .string ⟨(bl ((qx q).map h)).toArray⟩/\Below w w wr) (fun _ i _=>n-(intOf i).toNat)
 case atStart=>exact⟨0,Nat.zero_le _,rfl,rfl,Below.refl _ _⟩
 case round=>
  obtain⟨q,hq,rfl,rfl,hB⟩:=hrel;by_cases hlt:q<n
  ·obtain⟨b,off,rfl,hbl,hcc⟩:=HC.out qQ;have c1:=(hB.cell (p:=⟨b,off+q,none⟩) hbl).trans (hcc q hlt);have i1:(q:Int)<(n:Int):=qQ;have D:=qC (QX (h q) wr (HS q hlt));have EX:Hid ((⟨(bl ((qx (q+1)).map h)).toArray⟩:ByteArray)=⟨(bl ((qx q).map h)).toArray⟩++qD #[32]++⟨(dc (h q)).toArray⟩):=qC (by
    rw[List.range_succ,List.map_append,List.map_cons,List.map_nil,aY];have e1:qD #[32]=⟨[32].toArray⟩:=rfl;rw[e1,He,He];simp)
   have l1:=Mv (ns:=(qx q).map h) (fun x hx=>by obtain⟨i,hi,rfl⟩:=List.mem_map.1 hx;exact HS.out i (by have:=List.mem_range.1 hi;omega));have l2:=FQ (HS q hlt);have s1:(⟨(bl ((qx q).map h)).toArray⟩:ByteArray).size<=100000:=(by rw[Dp,jj];simp at l1;omega);have s2:(⟨(dc (h q)).toArray⟩:ByteArray).size<=4:=(by rw[Dp,jj];exact l2);clear hcc l1 l2;generalize (⟨(bl ((qx q).map h)).toArray⟩:ByteArray)=S at *;generalize (⟨(dc (h q)).toArray⟩:ByteArray)=D1 at *;have Ju:(qD #[32]).size=1:=rfl;have r1:¬9223372036854775807<S.size+(qD #[32]).size:=qQ;have r2:¬9223372036854775807<(S++qD #[32]).size+D1.size:=(by rw[kZ];omega);clear Ju;go_wp2_with fail
   refine D.out.mono ?_;rintro e w2 ⟨rfl,b2⟩;have B2:=Af hB b2;clear b2 D c1;go_wp2;exact⟨⟨q+1,by omega,by go_num,by rw[EX.out],B2⟩,by simp[intOf];omega⟩
  ·have i1:¬(q:Int)<(n:Int):=qQ;obtain rfl:q=n:=by omega
   go_wp2;go_ret;exact⟨rfl,hB⟩
open Go.Value renaming pointer→pT,string→sT
open Go.Ending renaming returned→rT
open Go.RowKit renaming Below→qN
def fh(t:Ae)(P:Nat)(S D1 D2 X1 X2 BL:ByteArray)(u0 u1 u2 u4 u6 u7 u8 u9 u10 u11 u12 u13 u14 u15 u16 u17 u18 u19 u20 u21 u22 u23 u24 u25 u26 u27 u28 u29 u30 u31 u32 u33 u34 u35 u36 u37 u38 u39 u40 u41 u42 u43 u44 u45 u46 u47 u48 u49 u50 u51 u52 u53 u54 u55 u56 u57 u58 u59 u60 u61 u62 u63 u64 u65 u66 u67 u68 u69 u70 u71 u72 u73 u74 u75 u76 u77 u78 u79 u80 u81 u82 u83 u84 u85 u86 u87 u88 u89 u90 u91 u92 u93 u94 u95 u96 u97 u98 u99 u100 u101 u102 u103 u104 u105 u106 u107 u108 u109 u110 u111 u112 u113 u114 u115 u116 u117 u118:Value)(V:World)(Q:Exit->Act->World->Prop)(hp:∀c a d v w,Q (.panic c) (Act.put a (some d) v) w->Q (.panic c) a w)
 (ED:∀args w,(callFunc 17 args).run prog w= .ok (.enter 17 args) w)(EX:∀args w,(callFunc 18 args).run prog w= .ok (.enter 18 args) w)(EL:∀args w,(callFunc 19 args).run prog w= .ok (.enter 19 args) w)(HA:∀W,qN V V W->Ag W P (.cells t 53))(PD1:∀W,qN V V W->Calls prog 17 #[t.id] W fun e w'=>∃v,e= rT v/\v= sT D1/\qN W W w')(PX1:∀W,qN V V W->Calls prog 18 #[.agg #[t.b1,t.c1]] W fun e w'=>∃v,e= rT v/\v= sT X1/\qN W W w')(PX2:∀W,qN V V W->Calls prog 18 #[.agg #[t.b2,t.c2]] W fun e w'=>∃v,e= rT v/\v= sT X2/\qN W W w')(PD2:∀W,qN V V W->Calls prog 17 #[t.made] W fun e w'=>∃v,e= rT v/\v= sT D2/\qN W W w')(PB:∀W,qN V V W->Calls prog 19 #[t.own] W fun e w'=>∃v,e= rT v/\v= sT BL/\qN W W w')(z0:S.size<=3000000)(z1:D1.size<=4)(z2:D2.size<=4)(z3:X1.size<=200)(z4:X2.size<=200)(z5:BL.size<=2000)
 (hQ:∀W,qN V V W->Q .normal ⟨#[u0,u1,u2,sT (S++(qD #[116,104,114,101,97,100,32])++D1++(qD #[32])++X1++(qD #[32])++X2++(qD #[32])++D2++BL++(qD #[10])),u4,pT P,u6,u7,u8,u9,u10,u11,u12,u13,u14,u15,u16,u17,u18,u19,u20,u21,u22,u23,sT S,sT (S++(qD #[116,104,114,101,97,100,32])),pT P,(t.id:Value),sT D1,sT (S++(qD #[116,104,114,101,97,100,32])++D1),sT (S++(qD #[116,104,114,101,97,100,32])++D1++(qD #[32])),pT (some ⟨P,1,none⟩),.agg #[t.b1,t.c1],sT X1,sT (S++(qD #[116,104,114,101,97,100,32])++D1++(qD #[32])++X1),sT (S++(qD #[116,104,114,101,97,100,32])++D1++(qD #[32])++X1++(qD #[32])),pT (some ⟨P,3,none⟩),.agg #[t.b2,t.c2],sT X2,sT (S++(qD #[116,104,114,101,97,100,32])++D1++(qD #[32])++X1++(qD #[32])++X2),sT (S++(qD #[116,104,114,101,97,100,32])++D1++(qD #[32])++X1++(qD #[32])++X2++(qD #[32])),pT (some ⟨P,6,none⟩),(t.made:Value),sT D2,sT (S++(qD #[116,104,114,101,97,100,32])++D1++(qD #[32])++X1++(qD #[32])++X2++(qD #[32])++D2),pT (some ⟨P,5,none⟩),(t.own:Value),sT BL,sT (S++(qD #[116,104,114,101,97,100,32])++D1++(qD #[32])++X1++(qD #[32])++X2++(qD #[32])++D2++BL),sT (S++(qD #[116,104,114,101,97,100,32])++D1++(qD #[32])++X1++(qD #[32])++X2++(qD #[32])++D2++BL++(qD #[10])),u50,u51,u52,u53,u54,u55,u56,u57,u58,u59,u60,u61,u62,u63,u64,u65,u66,u67,u68,u69,u70,u71,u72,u73,u74,u75,u76,u77,u78,u79,u80,u81,u82,u83,u84,u85,u86,u87,u88,u89,u90,u91,u92,u93,u94,u95,u96,u97,u98,u99,u100,u101,u102,u103,u104,u105,u106,u107,u108,u109,u110,u111,u112,u113,u114,u115,u116,u117,u118],[]⟩ W):
 Code.wp prog (Code.region 8 #[{dst:=some 24,op:=Op.move (Operand.tmp 3),type:=9,pos:= "l10_texts.go:45",after:=#[],guard:=none},{dst:=some 25,op:=Op.binOp BinOp.add 9 (Operand.tmp 24) (Operand.const (Value.string {data:=#[116,104,114,101,97,100,32]})) 9,type:=9,pos:= "l10_texts.go:45",after:=#[{on:=0,ground:=Ground.data}],guard:=none},{dst:=some 26,op:=Op.fieldAddr 53 (Operand.tmp 5) 0,type:=0,pos:= "l10_texts.go:45",after:=#[],guard:=none},{dst:=some 27,op:=Op.load 2 (Operand.tmp 26),type:=2,pos:= "l10_texts.go:45",after:=#[{on:=2,ground:=Ground.data}],guard:=none},{dst:=some 28,op:=Op.call {callee:=Callee.value (Operand.func 17),args:=#[Operand.tmp 27],argTypes:=#[2]},type:=9,pos:= "l10_texts.go:45",after:=#[{on:=3,ground:=Ground.data}],guard:=none},{dst:=some 29,op:=Op.binOp BinOp.add 9 (Operand.tmp 25) (Operand.tmp 28) 9,type:=9,pos:= "l10_texts.go:45",after:=#[{on:=1,ground:=Ground.data},{on:=4,ground:=Ground.data}],guard:=none},{dst:=some 30,op:=Op.binOp BinOp.add 9 (Operand.tmp 29) (Operand.const (Value.string {data:=#[32]})) 9,type:=9,pos:= "l10_texts.go:45",after:=#[{on:=5,ground:=Ground.data}],guard:=none},{dst:=some 31,op:=Op.fieldAddr 53 (Operand.tmp 5) 1,type:=0,pos:= "l10_texts.go:45",after:=#[],guard:=none},{dst:=some 32,op:=Op.load 42 (Operand.tmp 31),type:=42,pos:= "l10_texts.go:45",after:=#[{on:=7,ground:=Ground.data}],guard:=none},{dst:=some 33,op:=Op.call {callee:=Callee.value (Operand.func 18),args:=#[Operand.tmp 32],argTypes:=#[42]},type:=9,pos:= "l10_texts.go:45",after:=#[{on:=8,ground:=Ground.data},{on:=4,ground:=Ground.chain}],guard:=none},{dst:=some 34,op:=Op.binOp BinOp.add 9 (Operand.tmp 30) (Operand.tmp 33) 9,type:=9,pos:= "l10_texts.go:45",after:=#[{on:=6,ground:=Ground.data},{on:=9,ground:=Ground.data}],guard:=none},{dst:=some 35,op:=Op.binOp BinOp.add 9 (Operand.tmp 34) (Operand.const (Value.string {data:=#[32]})) 9,type:=9,pos:= "l10_texts.go:45",after:=#[{on:=10,ground:=Ground.data}],guard:=none},{dst:=some 36,op:=Op.fieldAddr 53 (Operand.tmp 5) 2,type:=0,pos:= "l10_texts.go:45",after:=#[],guard:=none},{dst:=some 37,op:=Op.load 42 (Operand.tmp 36),type:=42,pos:= "l10_texts.go:45",after:=#[{on:=12,ground:=Ground.data}],guard:=none},{dst:=some 38,op:=Op.call {callee:=Callee.value (Operand.func 18),args:=#[Operand.tmp 37],argTypes:=#[42]},type:=9,pos:= "l10_texts.go:45",after:=#[{on:=13,ground:=Ground.data},{on:=9,ground:=Ground.chain}],guard:=none},{dst:=some 39,op:=Op.binOp BinOp.add 9 (Operand.tmp 35) (Operand.tmp 38) 9,type:=9,pos:= "l10_texts.go:45",after:=#[{on:=11,ground:=Ground.data},{on:=14,ground:=Ground.data}],guard:=none},{dst:=some 40,op:=Op.binOp BinOp.add 9 (Operand.tmp 39) (Operand.const (Value.string {data:=#[32]})) 9,type:=9,pos:= "l10_texts.go:45",after:=#[{on:=15,ground:=Ground.data}],guard:=none},{dst:=some 41,op:=Op.fieldAddr 53 (Operand.tmp 5) 4,type:=0,pos:= "l10_texts.go:45",after:=#[],guard:=none},{dst:=some 42,op:=Op.load 2 (Operand.tmp 41),type:=2,pos:= "l10_texts.go:45",after:=#[{on:=17,ground:=Ground.data}],guard:=none},{dst:=some 43,op:=Op.call {callee:=Callee.value (Operand.func 17),args:=#[Operand.tmp 42],argTypes:=#[2]},type:=9,pos:= "l10_texts.go:45",after:=#[{on:=18,ground:=Ground.data},{on:=14,ground:=Ground.chain}],guard:=none},{dst:=some 44,op:=Op.binOp BinOp.add 9 (Operand.tmp 40) (Operand.tmp 43) 9,type:=9,pos:= "l10_texts.go:45",after:=#[{on:=16,ground:=Ground.data},{on:=19,ground:=Ground.data}],guard:=none},{dst:=some 45,op:=Op.fieldAddr 53 (Operand.tmp 5) 3,type:=0,pos:= "l10_texts.go:45",after:=#[],guard:=none},{dst:=some 46,op:=Op.load 51 (Operand.tmp 45),type:=51,pos:= "l10_texts.go:45",after:=#[{on:=21,ground:=Ground.data}],guard:=none},{dst:=some 47,op:=Op.call {callee:=Callee.value (Operand.func 19),args:=#[Operand.tmp 46],argTypes:=#[51]},type:=9,pos:= "l10_texts.go:45",after:=#[{on:=22,ground:=Ground.data},{on:=19,ground:=Ground.chain}],guard:=none},{dst:=some 48,op:=Op.binOp BinOp.add 9 (Operand.tmp 44) (Operand.tmp 47) 9,type:=9,pos:= "l10_texts.go:45",after:=#[{on:=20,ground:=Ground.data},{on:=23,ground:=Ground.data}],guard:=none},{dst:=some 49,op:=Op.binOp BinOp.add 9 (Operand.tmp 48) (Operand.const (Value.string {data:=#[10]})) 9,type:=9,pos:= "l10_texts.go:45",after:=#[{on:=24,ground:=Ground.data}],guard:=none},{dst:=some 3,op:=Op.assign (Operand.tmp 49),type:=9,pos:= "l10_texts.go:45",after:=#[{on:=25,ground:=Ground.data},{on:=23,ground:=Ground.chain},{on:=0,ground:=Ground.phase},{on:=1,ground:=Ground.phase},{on:=2,ground:=Ground.phase},{on:=3,ground:=Ground.phase},{on:=4,ground:=Ground.phase},{on:=5,ground:=Ground.phase},{on:=6,ground:=Ground.phase},{on:=7,ground:=Ground.phase},{on:=8,ground:=Ground.phase},{on:=9,ground:=Ground.phase},{on:=10,ground:=Ground.phase},{on:=11,ground:=Ground.phase},{on:=12,ground:=Ground.phase},{on:=13,ground:=Ground.phase},{on:=14,ground:=Ground.phase},{on:=15,ground:=Ground.phase},{on:=16,ground:=Ground.phase},{on:=17,ground:=Ground.phase},{on:=18,ground:=Ground.phase},{on:=19,ground:=Ground.phase},{on:=20,ground:=Ground.phase},{on:=21,ground:=Ground.phase},{on:=22,ground:=Ground.phase},{on:=23,ground:=Ground.phase},{on:=24,ground:=Ground.phase},{on:=25,ground:=Ground.phase}],guard:=none}] true) Q ⟨#[u0,u1,u2,sT S,u4,pT P,u6,u7,u8,u9,u10,u11,u12,u13,u14,u15,u16,u17,u18,u19,u20,u21,u22,u23,u24,u25,u26,u27,u28,u29,u30,u31,u32,u33,u34,u35,u36,u37,u38,u39,u40,u41,u42,u43,u44,u45,u46,u47,u48,u49,u50,u51,u52,u53,u54,u55,u56,u57,u58,u59,u60,u61,u62,u63,u64,u65,u66,u67,u68,u69,u70,u71,u72,u73,u74,u75,u76,u77,u78,u79,u80,u81,u82,u83,u84,u85,u86,u87,u88,u89,u90,u91,u92,u93,u94,u95,u96,u97,u98,u99,u100,u101,u102,u103,u104,u105,u106,u107,u108,u109,u110,u111,u112,u113,u114,u115,u116,u117,u118],[]⟩ V:=by
 have V0:qN V V V.drew:=(Below.refl _ V).drew;refine Am 27 (fun W=>qN V V W) kR ?_;refine tr 0 24 (sT S) V0 ?_ (hQ:=(fun c a w h=>hp c a _ _ w h));refine tr 1 25 (sT (S++(qD #[116,104,114,101,97,100,32]))) V0 ?_ (hy:=fun W h=>by go_simp;omega) (hQ:=(fun c a w h=>hp c a _ _ w h));refine tr 2 26 (pT P) V0 ?_ (hQ:=(fun c a w h=>hp c a _ _ w h));refine tr 3 27 (.int .i64 t.id) V0 ?_ (hy:=fun W h=>by obtain⟨q0,q1,q2,q3,q4,q5,q6⟩:=(HA W h).sevenF;go_simp) (hQ:=(fun c a w h=>hp c a _ _ w h));refine tr 7 31 (pT (some ⟨P,1,none⟩)) V0 ?_ (hQ:=(fun c a w h=>hp c a _ _ w h));refine tr 8 32 (.agg #[t.b1,t.c1]) V0 ?_ (hy:=fun W h=>by obtain⟨q0,q1,q2,q3,q4,q5,q6⟩:=(HA W h).sevenF;go_simp) (hQ:=(fun c a w h=>hp c a _ _ w h));refine tr 12 36 (pT (some ⟨P,3,none⟩)) V0 ?_ (hQ:=(fun c a w h=>hp c a _ _ w h));refine tr 13 37 (.agg #[t.b2,t.c2]) V0 ?_ (hy:=fun W h=>by obtain⟨q0,q1,q2,q3,q4,q5,q6⟩:=(HA W h).sevenF;go_simp) (hQ:=(fun c a w h=>hp c a _ _ w h));refine tr 17 41 (pT (some ⟨P,6,none⟩)) V0 ?_ (hQ:=(fun c a w h=>hp c a _ _ w h));refine tr 18 42 (.int .i64 t.made) V0 ?_ (hy:=fun W h=>by obtain⟨q0,q1,q2,q3,q4,q5,q6⟩:=(HA W h).sevenF;go_simp) (hQ:=(fun c a w h=>hp c a _ _ w h));refine tr 21 45 (pT (some ⟨P,5,none⟩)) V0 ?_ (hQ:=(fun c a w h=>hp c a _ _ w h));refine tr 22 46 (.slice t.own.a t.own.n t.own.k) V0 ?_ (hy:=fun W h=>by obtain⟨q0,q1,q2,q3,q4,q5,q6⟩:=(HA W h).sevenF;go_simp) (hQ:=(fun c a w h=>hp c a _ _ w h));refine Ac (i:=4) kR rfl ?_;intro K hK;refine An qK 17 _ _ qK ED _ qK (some 28) qK _ (PD1 _ V0) ?_;rintro v w1x ⟨rfl,h1⟩;have V1:=Af V0 h1;refine hK _ _ (fun _=>V1) ?_;clear hK K;simp only[ap,qF];refine tr 5 29 (sT (S++(qD #[116,104,114,101,97,100,32])++D1)) V1 ?_ (hy:=fun W h=>by go_simp;omega) (hQ:=(fun c a w h=>hp c a _ _ w h));refine tr 6 30 (sT (S++(qD #[116,104,114,101,97,100,32])++D1++(qD #[32]))) V1 ?_ (hy:=fun W h=>by go_simp;omega) (hQ:=(fun c a w h=>hp c a _ _ w h));refine Ac (i:=9) kR rfl ?_;intro K hK;refine An qK 18 _ _ qK EX _ qK (some 33) qK _ (PX1 _ V1) ?_;rintro v w2x ⟨rfl,h2⟩;have V2:=Af V1 h2;refine hK _ _ (fun _=>V2) ?_;clear hK K;simp only[ap,qF];refine tr 10 34 (sT (S++(qD #[116,104,114,101,97,100,32])++D1++(qD #[32])++X1)) V2 ?_ (hy:=fun W h=>by go_simp;omega) (hQ:=(fun c a w h=>hp c a _ _ w h));refine tr 11 35 (sT (S++(qD #[116,104,114,101,97,100,32])++D1++(qD #[32])++X1++(qD #[32]))) V2 ?_ (hy:=fun W h=>by go_simp;omega) (hQ:=(fun c a w h=>hp c a _ _ w h));refine Ac (i:=14) kR rfl ?_;intro K hK;refine An qK 18 _ _ qK EX _ qK (some 38) qK _ (PX2 _ V2) ?_;rintro v w3x ⟨rfl,h3⟩;have V3:=Af V2 h3;refine hK _ _ (fun _=>V3) ?_;clear hK K;simp only[ap,qF];refine tr 15 39 (sT (S++(qD #[116,104,114,101,97,100,32])++D1++(qD #[32])++X1++(qD #[32])++X2)) V3 ?_ (hy:=fun W h=>by go_simp;omega) (hQ:=(fun c a w h=>hp c a _ _ w h));refine tr 16 40 (sT (S++(qD #[116,104,114,101,97,100,32])++D1++(qD #[32])++X1++(qD #[32])++X2++(qD #[32]))) V3 ?_ (hy:=fun W h=>by go_simp;omega) (hQ:=(fun c a w h=>hp c a _ _ w h));refine Ac (i:=19) kR rfl ?_;intro K hK;refine An qK 17 _ _ qK ED _ qK (some 43) qK _ (PD2 _ V3) ?_;rintro v w4x ⟨rfl,h4⟩;have V4:=Af V3 h4;refine hK _ _ (fun _=>V4) ?_;clear hK K;simp only[ap,qF];refine tr 20 44 (sT (S++(qD #[116,104,114,101,97,100,32])++D1++(qD #[32])++X1++(qD #[32])++X2++(qD #[32])++D2)) V4 ?_ (hy:=fun W h=>by go_simp;omega) (hQ:=(fun c a w h=>hp c a _ _ w h));refine Ac (i:=23) kR rfl ?_;intro K hK;refine An qK 19 _ _ qK EL _ qK (some 47) qK _ (PB _ V4) ?_;rintro v w5x ⟨rfl,h5⟩;have V5:=Af V4 h5;refine hK _ _ (fun _=>V5) ?_;clear hK K;simp only[ap,qF];refine tr 24 48 (sT (S++(qD #[116,104,114,101,97,100,32])++D1++(qD #[32])++X1++(qD #[32])++X2++(qD #[32])++D2++BL)) V5 ?_ (hy:=fun W h=>by go_simp;omega) (hQ:=(fun c a w h=>hp c a _ _ w h));refine tr 25 49 (sT (S++(qD #[116,104,114,101,97,100,32])++D1++(qD #[32])++X1++(qD #[32])++X2++(qD #[32])++D2++BL++(qD #[10]))) V5 ?_ (hy:=fun W h=>by go_simp;omega) (hQ:=(fun c a w h=>hp c a _ _ w h));refine tr 26 3 (sT (S++(qD #[116,104,114,101,97,100,32])++D1++(qD #[32])++X1++(qD #[32])++X2++(qD #[32])++D2++BL++(qD #[10]))) V5 ?_ (hQ:=(fun c a w h=>hp c a _ _ w h));refine Ai kR ?_ _;exact hQ _ V5
end Go.Proofs.YtdaccbddcjlkpaaGreatDoor
