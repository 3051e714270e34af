import Derived.Test.YtbacmamplkdgaaaGreatDoorZ32b
import Derived.Test.YtbacmamplkdgaaaGreatDoorZ1b
import Derived.Test.YtbacmamplkdgaaaGreatDoorZ11b
import Derived.Test.YtbacmamplkdgaaaGreatDoorZ24b
import Derived.Test.YtbacmamplkdgaaaGreatDoorZ3b
import Derived.Maps.OwnOps
import Derived.Test.YtbacmamplkdgaaaGreatDoorProg
import Derived.Shelf.Strings.OnBuilder
import Derived.Shelf.Strings.Builder1
import Derived.Shelf.Strings.BuilderF
import Derived.Shelf.Strconv.Itoa4
import Derived.Shelf.Strconv.Clone
import Derived.Shelf.LaysM
import Derived.Shelf.Lays
import Derived.Ground.NamesProg
import Derived.Lib.AppendIntMem
import Derived.Test.YtbacmamplkdgaaaGreatDoorZ2b
import Derived.Test.YtbacmamplkdgaaaGreatDoorZ4b
import Derived.Deep.RegionLaw
set_option maxRecDepth 100000
set_option maxHeartbeats 8000000
namespace Go.Proofs.YtbacmamplkdgaaaGreatDoor
open Go Go.RowKit Go.Deep Go.Maps Go.BigFrame Go.Shelf
theorem implSeen_any(k:KerV)(b:Int)(c:CatL)(w:World)(hk:k.at w)(hcap:k.on≤k.ok)(hw:k.wfs)(hc:c.at w):
 Calls Tryz.prog 9 #[k.val,.agg #[.int .i64 b,c.val]] w fun e w'=>∃v,e= .returned v∧OwnI w' w.heap.size v (seenL k b c)∧Below w.heap.size w w':=by
 have b0:Below w.heap.size w ((w.alloc (.cells #[.slice k.ta k.tn k.tk,.slice k.oa k.on k.ok] 27)).alloc (.cells #[.int .i64 b,.slice c.a c.n c.k] 30)):=((Below.refl _ w).alloc (Nat.le_refl _) _).alloc (by simp) _;have A0:=(Blk.new w (.cells #[.slice k.ta k.tn k.tk,.slice k.oa k.on k.ok] 27)).alloc (.cells #[.int .i64 b,.slice c.a c.n c.k] 30);have L0:=Blk.new (w.alloc (.cells #[.slice k.ta k.tn k.tk,.slice k.oa k.on k.ok] 27)) (.cells #[.int .i64 b,.slice c.a c.n c.k] 30);simp only[World.size_alloc]at L0;have HK:=hid hk;have HC:=hid hc;have HW:=hid hw;have C1:=hid (viewOk_any k b c _ (hk.below b0) hcap hw (hc.below b0));unfold KerV.val CatL.val at C1;unfold KerV.val CatL.val;obtain⟨x0,x1⟩:=A0.two;obtain⟨y0,y1⟩:=L0.two;clear hk hw hc;go_enter Tryz.func9,Tryz.ntmps9
 go_wp2_with fail
 refine C1.out.mono ?_;rintro e w1 ⟨rfl,hb1⟩;have A1:=A0.below hb1;have L1:=L0.below hb1;have B1:=then_ b0 hb1;clear x0 x1 y0 y1 C1 A0 L0 b0 hb1;obtain⟨x0,x1⟩:=A1.two;obtain⟨y0,y1⟩:=L1.two;cases t:(kerOk k&&labOkV b c)with
 |false=>
  have E:seenL k b c=[]:=by
   cases t1:kerOk k with
   |false=>exact seenL_no1 t1
   |true=>rw[t1,Bool.true_and]at t;exact seenL_no2 t
  go_wp2;go_ret;exact⟨_,rfl,by rw[E];exact OwnI.nil _ _,B1⟩
 |true=>
 obtain⟨t1,t2⟩:=(Bool.and_eq_true _ _).mp t;have SL:=hid (seenL_yes t1 t2);have OK:=hid (kerOk_objs t1);have LK:=hid t2;have ON:=(objsOk_out OK.out).2.1;have C2:=hid (viewing_any k b c w1 (HK.out.below B1) t1 HW.out);unfold KerV.val viewV CatL.val at C2;obtain⟨ob,off,ea,_,_⟩:=HK.out.2.2.2 (by have:=(objsOk_out OK.out).1;omega);have HO:Hid (∀W,Below w.heap.size w W→ObjsAt W (some ⟨ob,off,none⟩) k.on k.O):=hid (fun W h=>by have:=HK.out.2.2.2.below h;rw[ea]at this;exact this);rw[ea]at C2 x1;clear t t1 t2 ea;go_wp2_with fail
 refine C2.out.mono ?_;rintro e w2 ⟨m,nb,kv,rfl,hN,hb2⟩;have B2:=then_ B1 hb2;have A2:=A1.below hb2;have bP:Below w.heap.size w (w2.alloc (.cells #[.int .i64 b,.slice c.a c.n c.k,.slice k.ta k.tn k.tk,.slice (some ⟨ob,off,none⟩) k.on k.ok,.map (some m)] 63)):=B2.alloc B2.size _;have P0:=Blk.new w2 (.cells #[.int .i64 b,.slice c.a c.n c.k,.slice k.ta k.tn k.tk,.slice (some ⟨ob,off,none⟩) k.on k.ok,.map (some m)] 63);have szP:w.heap.size≤w2.heap.size:=B2.size;have X1:(w2.alloc (.cells #[.int .i64 b,.slice c.a c.n c.k,.slice k.ta k.tn k.tk,.slice (some ⟨ob,off,none⟩) k.on k.ok,.map (some m)] 63)).cell? ⟨w.heap.size,1,none⟩=some (.slice (some ⟨ob,off,none⟩) k.on k.ok):=by
  have h1:=(hb2.cell (p:=⟨w.heap.size,1,none⟩) A1.lt).trans x1;exact(((Below.refl _ w2).alloc (Nat.le_refl _) _).cell (p:=⟨w.heap.size,1,none⟩) A2.lt).trans h1
 clear x0 x1 y0 y1 hN hb2 C2 A1 L1 B1 A2 B2;go_wp2;clear X1;go_loopw [6,19] (fun v i wr=>∃q:Nat,q≤k.on∧i= .int .i64 q∧Hid (OwnI wr (w2.heap.size+1) v (seenTo k.O b c q))∧Blk wr w2.heap.size (.cells #[.int .i64 b,.slice c.a c.n c.k,.slice k.ta k.tn k.tk,.slice (some ⟨ob,off,none⟩) k.on k.ok,.map (some m)] 63)∧Below w.heap.size w wr) (fun _ i _=>k.on-(intOf i).toNat)
 case atStart=>exact⟨0,Nat.zero_le _,rfl,hid (OwnI.nil _ _),P0,bP⟩
 case round=>
  clear P0 bP;obtain⟨q,hq,rfl,HI,P,hB⟩:=hrel;by_cases hlt:q<k.on
  ·obtain⟨_,_,e1,hlt0,hcc⟩:=(HO.out wr hB) (by omega);cases e1;obtain⟨⟨q0,q1,q2,q3,q4,q5,q6,q7,q8,q9⟩,ht⟩:=hcc q hlt;have i1:(q:Int)<(k.on:Int):=(by omega);have b1:Below wr.heap.size wr (wr.alloc (k.O q).blk):=(Below.refl _ wr).alloc (Nat.le_refl _) _;have SZ:=hid (sees_any b c (k.O q) _ ((HC.out.below hB).below b1) (ht.below b1));rw[leq_seen OK.out hlt LK.out]at SZ;have X0:=Blk.new wr (k.O q).blk;have P1:=P.alloc (k.O q).blk;have B1:=then_ hB b1;have O1:=hid (OwnI.alloc HI.out (k.O q).blk);simp only[CatL.val,IntL.val,StrL.val,ObjV.val,ObjV.blk]at q4 q6 q7 q9 SZ X0 P1 b1 B1 O1;obtain⟨z0,z1,z2,z3,z4⟩:=P1.five;clear hcc ht HI P hB;go_wp2_with fail
   refine SZ.out.mono ?_;rintro e w3 ⟨rfl,hb3⟩;have B3:=then_ B1 hb3;have P3:=P1.below hb3;have O3:=hid (OwnI.below O1.out hb3);have c0:=(X0.below hb3).ten.1;clear q0 q1 q2 q3 q4 q5 q6 q7 q8 q9 z0 z1 z2 z3 z4 SZ X0 P1 b1 B1 O1 hb3 hlt0;cases e:seenO (k.O q) b c with
   |false=>
    have EQ:=hid (seenTo_no e);clear e;go_wp2;exact⟨⟨q+1,by omega,by go_num,hid (by rw[EQ.out];exact O3.out),P3,B3⟩,by simp[intOf];omega⟩
   |true=>
    have EQ:=hid (seenTo_yes e);have hl:=seenTo_len k.O b c q;have B4:Below w.heap.size w (w3.alloc (.cells #[.int .i64 (k.O q).id] 2)):=B3.alloc B3.size _;have P4:=P3.alloc (.cells #[.int .i64 (k.O q).id] 2);have O4:=hid (OwnI.alloc O3.out (.cells #[.int .i64 (k.O q).id] 2));have N1:=hid (NumL.one (w:=w3) (k.O q).id);have s1:w2.heap.size+1≤(w3.alloc (.cells #[.int .i64 (k.O q).id] 2)).heap.size:=(by have:=P3.lt;simp;omega);have FIN:Hid (∀w4:World,(w3.alloc (.cells #[.int .i64 (k.O q).id] 2)).grownBy w4 u6.ownBlock→Blk w4 w2.heap.size (.cells #[.int .i64 b,.slice c.a c.n c.k,.slice k.ta k.tn k.tk,.slice (some ⟨ob,off,none⟩) k.on k.ok,.map (some m)] 63)∧Below w.heap.size w w4):=hid (fun w4 g4=>⟨P4.grown g4 (fun e=>by have:=(World.ownsRow.lt O4.out _ e.symm).1;omega),B4.trans (below_grown g4 B4.size (fun j hj=>by have:=(World.ownsRow.lt O4.out j hj).1;omega))⟩);clear e O3 B4 P4;go_wp2_with(refine wpList_append_ints _ rfl _ _ rfl (w2.heap.size+1) u6 (seenTo k.O b c q) rfl O4.out _ 1 1 [(k.O q).id] rfl rfl N1.out (by omega) s1 ?_;intro a4 c4 w4 o4 g4 v4)
    rw[←EQ.out]at o4;obtain⟨f1,f2⟩:=FIN.out w4 g4;exact⟨⟨q+1,by omega,by go_num,hid (by first|exact o4|simpa[EQ.out]using o4),f1,f2⟩,by simp[intOf];omega⟩
  ·have i1:¬(q:Int)<(k.on:Int):=(by omega);have e:q=k.on:=(by omega);have HO2:Hid (OwnI wr (w2.heap.size+1) u6 (seenTo k.O b c k.on)):=hid (by rw[←e];exact HI.out);clear HI e;go_wp2;go_ret;exact⟨u6,rfl,by rw[SL.out];exact HO2.out.low (by omega),hB⟩


theorem l1DecI_any(x:Int)(w:World)(h0:0≤x)(h1:x≤10000000000):
 Calls Tryz.prog 42 #[.int .i64 x] w fun e w'=>e= .returned (.string ⟨(decL x.toNat).toArray⟩)∧Below w.heap.size w w':=by
 obtain⟨n,rfl⟩:=Int.eq_ofNat_of_zero_le h0;exact l1Dec_any n w (by omega)
def catsTo(f g:Nat→Int)(k:Nat):List (Int×Int):=(List.range k).map fun i=>(f i,g i)
theorem catsTo_succ(f g:Nat→Int)(k:Nat):catsTo f g (k+1)=catsTo f g k++[(f k,g k)]:=by simp[catsTo,List.range_succ]
theorem txt_len(base:Int)(f g:Nat→Int)(k:Nat)(hb:base.toNat≤10000000000)(hc:∀i,i<k→(f i).toNat≤10000000000∧(g i).toNat≤10000000000):(txt base (catsTo f g k)).length≤10000000001+k*20000000010:=by
 induction k with
 |zero=>simp[txt,catsTo];have:=decL_len base.toNat;omega
 |succ k ih=>
  rw[catsTo_succ,txt_snoc,List.length_append];have:=ih (fun i hi=>hc i (by omega));have h1:=decL_len (f k).toNat;have h2:=decL_len (g k).toNat;have h3:=hc k (by omega);simp only[catText,List.length_cons,List.length_append];omega
theorem l1Text_any(base:Int)(a:Option Addr)(n cap:Nat)(f g:Nat→Int)(w:World)(hn:n≤12)(hc:CatsAt w a n f g)(hb:0≤base∧base≤10000000000)(hf:∀i,i<n→0≤f i∧f i≤10000000000)(hg:∀i,i<n→0≤g i∧g i≤10000000000):
 Calls Tryz.prog 40 #[.agg #[.int .i64 base,.slice a n cap]] w fun e w'=>e= .returned (.string ⟨(txt base (catsTo f g n)).toArray⟩)∧Below w.heap.size w w':=by
 have L0:=(Below.refl _ w).alloc (Nat.le_refl _) (.cells #[.int .i64 base,.slice a n cap] 30);have A0:=Blk.new w (.cells #[.int .i64 base,.slice a n cap] 30);obtain⟨x1,x2⟩:=A0.two;go_enter Tryz.func40,Tryz.ntmps40
 go_wp2_with fail
 refine(l1DecI_any base _ hb.1 hb.2).mono ?_;rintro e w1 ⟨rfl,hb1⟩;have A1:=A0.below hb1;have L1:Below w.heap.size w w1:=L0.trans (hb1.mono L0.size);have hc1:=hc.below L1;clear x1 x2 A0 L0 hb1;go_wp2_with fail
 go_loopw [3,4] (fun s i wr=>∃k:Nat,k≤n∧i= .int .i64 k∧s= .string ⟨(txt base (catsTo f g k)).toArray⟩∧Below w1.heap.size w1 wr) (fun _ i _=>n-(intOf i).toNat)
 case atStart=>exact⟨0,Nat.zero_le _,rfl,by simp[txt,catsTo],Below.refl _ _⟩
 case round=>
  obtain⟨k,hk,rfl,rfl,hB⟩:=hrel;have lk:=txt_len base f g k (by omega) (fun i hi=>by have:=hf i (by omega);have:=hg i (by omega);omega);have Ar:=A1.below hB;obtain⟨x1,x2⟩:=Ar.two;by_cases hlt:k<n
  ·have hki:(k:Int)<(n:Int):=(by omega);obtain⟨b,off,rfl,hbl,hcc⟩:=hc1 (by omega);obtain⟨c1,c2⟩:=hcc k hlt;have g1:wr.cell? ⟨b,off+k*2,none⟩=some (.int .i64 (f k)):=(hB.cell (p:=⟨b,_,none⟩) hbl).trans c1;have g2:wr.cell? ⟨b,off+k*2+1,none⟩=some (.int .i64 (g k)):=(hB.cell (p:=⟨b,_,none⟩) hbl).trans c2;have hf0:=hf k hlt;have hg0:=hg k hlt;have hD1:=decL_len (f k).toNat;have hD2:=decL_len (g k).toNat;have P1:Hid (∀v:World,Calls Tryz.prog 42 #[.int .i64 (f k)] v fun e w'=>e= .returned (.string ⟨(decL (f k).toNat).toArray⟩)∧Below v.heap.size v w'):=fun v=>l1DecI_any (f k) v hf0.1 hf0.2;have P2:Hid (∀v:World,Calls Tryz.prog 42 #[.int .i64 (g k)] v fun e w'=>e= .returned (.string ⟨(decL (g k).toNat).toArray⟩)∧Below v.heap.size v w'):=fun v=>l1DecI_any (g k) v hg0.1 hg0.2;have HT:Hid (txt base (catsTo f g (k+1))=txt base (catsTo f g k)++44::(decL (f k).toNat++58::decL (g k).toNat)):=by
    show _=_;rw[catsTo_succ,txt_snoc];rfl
   have Ad:Blk wr.drew w.heap.size (.cells #[.int .i64 base,.slice (some ⟨b,off,none⟩) n cap] 30):=Ar;have hbd:b<wr.drew.heap.size:=Nat.lt_of_lt_of_le hbl hB.size;have gd1:wr.drew.cell? ⟨b,off+k*2,none⟩=some (.int .i64 (f k)):=g1;have gd2:wr.drew.cell? ⟨b,off+k*2+1,none⟩=some (.int .i64 (g k)):=g2;clear hc hc1 hcc hf hg c1 c2;generalize hT:txt base (catsTo f g k)=T at *;generalize hE1:decL (f k).toNat=D1 at *;generalize hE2:decL (g k).toNat=D2 at *;generalize f k=fk at *;generalize g k=gk at *;have hD1':D1.length≤10000000001:=(by omega);have hD2':D2.length≤10000000001:=(by omega);have lk':T.length≤1000000000000:=(by omega);have r1:¬9223372036854775807<T.length+1:=(by omega);have r2:¬9223372036854775807<T.length+1+D1.length:=(by omega);have r3:¬9223372036854775807<T.length+1+D1.length+1:=(by omega);have r4:¬9223372036854775807<T.length+1+D1.length+1+D2.length:=(by omega);clear hT hE1 hE2 hD1 hD2 lk hf0 hg0;go_wp2_with fail
   go_region_held3(fun w'=>w'.cell? ⟨w.heap.size,0,none⟩=some (.int .i64 base)∧w'.cell? ⟨w.heap.size,1,none⟩=some (.slice (some ⟨b,off,none⟩) n cap)∧w'.cell? ⟨b,off+k*2,none⟩=some (.int .i64 fk)∧w'.cell? ⟨b,off+k*2+1,none⟩=some (.int .i64 gk)) (go_keep)
    (first
      |(go_at_call 42;have hq:=hb7;refine(P2.out _).mono ?_;rintro e w8 ⟨rfl,hb8⟩;obtain⟨t1,t2⟩:=((Ad.below hb7).below hb8).two;have t3:=(hb8.cell (p:=⟨b,off+k*2,none⟩) (Nat.lt_of_lt_of_le hbd hb7.size)).trans y3;have t4:=(hb8.cell (p:=⟨b,off+k*2+1,none⟩) (Nat.lt_of_lt_of_le hbd hb7.size)).trans y4)
      |(go_at_call 42;refine(P1.out _).mono ?_;rintro e w7 ⟨rfl,hb7⟩;obtain⟨y1,y2⟩:=(Ad.below hb7).two;have y3:=(hb7.cell (p:=⟨b,off+k*2,none⟩) hbd).trans gd1;have y4:=(hb7.cell (p:=⟨b,off+k*2+1,none⟩) hbd).trans gd2))
   go_wp2;go_roundw;case rel=>
    refine⟨k+1,by omega,by go_num,?_,(hB.drew.trans (hb7.mono hB.size)).trans (hb8.mono (Nat.le_trans hB.size hb7.size))⟩;have ea:(⟨#[44]⟩:ByteArray)=⟨[44].toArray⟩:=rfl;have eb:(⟨#[58]⟩:ByteArray)=⟨[58].toArray⟩:=rfl;rw[ea,eb,bytes_app,bytes_app,bytes_app,bytes_app,HT.out];simp
   case measure=>simp[intOf];omega
  ·have hki:¬(k:Int)<(n:Int):=(by omega);have ek:k=n:=(by omega);subst ek;go_wp2;go_ret;exact⟨rfl,L1.trans (hB.mono L1.size)⟩

def fin(b:Int):Option (List (Int×Int))→Int×List (Int×Int)×Bool
 |some cats=>if labOk b cats.length (fstAt cats) (sndAt cats)=true then(b,cats,true)else(0,[],false)
 |none=>(0,[],false)
theorem OwnList.nil(w:World)(B:Nat):OwnList w B (.slice none 0 0) []:=OwnCats.nil _ _ _ _
def ltext(base:Int)(n:Nat)(f g:Nat→Int):List UInt8:=if labOk base n f g=true then txt base (catsTo f g n)else[]
def Tryz.joinA_ren:Go.Shelf.Ren:=⟨fun|156=>74|165=>107|166=>73|169=>39|240=>106|241=>128|276=>127|277=>146|n=>n,fun|31=>40|9=>9|3=>3|4=>4|0=>0|20=>20|72=>69|76=>120|70=>67|37=>22|75=>119|127=>129|164=>169|5=>5|80=>80|n=>n,fun|n=>n⟩
theorem Tryz.joinA:Go.Proofs.Lays.n156 Tryz.prog Tryz.joinA_ren:={
 mixed:=by kernel_rfl
 f156:=Tryz.func74.trans (congrArg some (by kernel_rfl))
 f165:=Tryz.func107.trans (congrArg some (by kernel_rfl))
 f166:=Tryz.func73.trans (congrArg some (by kernel_rfl))
 f169:=Tryz.func39.trans (congrArg some (by kernel_rfl))
 f240:=Tryz.func106.trans (congrArg some (by kernel_rfl))
 f241:=Tryz.func128.trans (congrArg some (by kernel_rfl))
 f276:=Tryz.func127.trans (congrArg some (by kernel_rfl))
 f277:=Tryz.func146.trans (congrArg some (by kernel_rfl))
 t0:=Tryz.underlying0
 a0:=Tryz.isAgg0
 z0:=Tryz.sizeOf0
 v0:=Tryz.zeroValue0
 t3:=Tryz.underlying3
 a3:=Tryz.isAgg3
 z3:=Tryz.sizeOf3
 v3:=Tryz.zeroValue3
 t4:=Tryz.underlying4
 a4:=Tryz.isAgg4
 z4:=Tryz.sizeOf4
 v4:=Tryz.zeroValue4
 t9:=Tryz.underlying9
 a9:=Tryz.isAgg9
 z9:=Tryz.sizeOf9
 v9:=Tryz.zeroValue9
 t20:=Tryz.underlying20
 a20:=Tryz.isAgg20
 z20:=Tryz.sizeOf20
 v20:=Tryz.zeroValue20
 t31:=Tryz.underlying40
 a31:=Tryz.isAgg40
 z31:=Tryz.sizeOf40
 v31:=Tryz.zeroValue40
 t37:=Tryz.underlying22
 a37:=Tryz.isAgg22
 z37:=Tryz.sizeOf22
 v37:=Tryz.zeroValue22
 t70:=Tryz.underlying67
 a70:=Tryz.isAgg67
 z70:=Tryz.sizeOf67
 v70:=Tryz.zeroValue67
 t72:=Tryz.underlying69
 a72:=Tryz.isAgg69
 z72:=Tryz.sizeOf69
 v72:=Tryz.zeroValue69
 t75:=Tryz.underlying119
 a75:=Tryz.isAgg119
 z75:=Tryz.sizeOf119
 v75:=Tryz.zeroValue119
 t76:=Tryz.underlying120
 a76:=Tryz.isAgg120
 z76:=Tryz.sizeOf120
 v76:=Tryz.zeroValue120
 t127:=Tryz.underlying129
 a127:=Tryz.isAgg129
 z127:=Tryz.sizeOf129
 v127:=Tryz.zeroValue129
 t164:=Tryz.underlying169
 a164:=Tryz.isAgg169
 z164:=Tryz.sizeOf169
 v164:=Tryz.zeroValue169}
def Tryz.bstrA_ren:Go.Shelf.Ren:=⟨fun|169=>39|n=>n,fun|70=>67|9=>9|0=>0|72=>69|37=>22|127=>129|3=>3|5=>5|n=>n,fun|n=>n⟩
theorem Tryz.bstrA:Go.Proofs.Lays.n169 Tryz.prog Tryz.bstrA_ren:={
 mixed:=by kernel_rfl
 f169:=Tryz.func39.trans (congrArg some (by kernel_rfl))
 t0:=Tryz.underlying0
 a0:=Tryz.isAgg0
 z0:=Tryz.sizeOf0
 v0:=Tryz.zeroValue0
 t3:=Tryz.underlying3
 a3:=Tryz.isAgg3
 z3:=Tryz.sizeOf3
 v3:=Tryz.zeroValue3
 t9:=Tryz.underlying9
 a9:=Tryz.isAgg9
 z9:=Tryz.sizeOf9
 v9:=Tryz.zeroValue9
 t37:=Tryz.underlying22
 a37:=Tryz.isAgg22
 z37:=Tryz.sizeOf22
 v37:=Tryz.zeroValue22
 t70:=Tryz.underlying67
 a70:=Tryz.isAgg67
 z70:=Tryz.sizeOf67
 v70:=Tryz.zeroValue67
 t72:=Tryz.underlying69
 a72:=Tryz.isAgg69
 z72:=Tryz.sizeOf69
 v72:=Tryz.zeroValue69
 t127:=Tryz.underlying129
 a127:=Tryz.isAgg129
 z127:=Tryz.sizeOf129
 v127:=Tryz.zeroValue129}
def Tryz.fmtA_ren:Go.Shelf.Ren:=⟨fun|173=>108|246=>129|283=>147|284=>148|285=>149|286=>150|129=>163|317=>178|318=>179|319=>180|320=>181|337=>189|338=>190|n=>n,fun|2=>2|3=>3|9=>9|4=>4|171=>180|0=>0|53=>166|37=>22|5=>5|173=>183|212=>206|51=>196|20=>20|213=>207|46=>168|232=>218|233=>219|n=>n,fun|17=>2|18=>3|19=>4|n=>n⟩
theorem Tryz.fmtA:Go.Proofs.LaysM.n173 Tryz.prog Tryz.fmtA_ren:={
 mixed:=by kernel_rfl
 f129:=Tryz.func163.trans (congrArg some (by kernel_rfl))
 f173:=Tryz.func108.trans (congrArg some (by kernel_rfl))
 f246:=Tryz.func129.trans (congrArg some (by kernel_rfl))
 f283:=Tryz.func147.trans (congrArg some (by kernel_rfl))
 f284:=Tryz.func148.trans (congrArg some (by kernel_rfl))
 f285:=Tryz.func149.trans (congrArg some (by kernel_rfl))
 f286:=Tryz.func150.trans (congrArg some (by kernel_rfl))
 f317:=Tryz.func178.trans (congrArg some (by kernel_rfl))
 f318:=Tryz.func179.trans (congrArg some (by kernel_rfl))
 f319:=Tryz.func180.trans (congrArg some (by kernel_rfl))
 f320:=Tryz.func181.trans (congrArg some (by kernel_rfl))
 f337:=Tryz.func189.trans (congrArg some (by kernel_rfl))
 f338:=Tryz.func190.trans (congrArg some (by kernel_rfl))
 t0:=Tryz.underlying0
 a0:=Tryz.isAgg0
 z0:=Tryz.sizeOf0
 v0:=Tryz.zeroValue0
 t2:=Tryz.underlying2
 a2:=Tryz.isAgg2
 z2:=Tryz.sizeOf2
 v2:=Tryz.zeroValue2
 t3:=Tryz.underlying3
 a3:=Tryz.isAgg3
 z3:=Tryz.sizeOf3
 v3:=Tryz.zeroValue3
 t4:=Tryz.underlying4
 a4:=Tryz.isAgg4
 z4:=Tryz.sizeOf4
 v4:=Tryz.zeroValue4
 t5:=Tryz.underlying5
 a5:=Tryz.isAgg5
 z5:=Tryz.sizeOf5
 v5:=Tryz.zeroValue5
 t9:=Tryz.underlying9
 a9:=Tryz.isAgg9
 z9:=Tryz.sizeOf9
 v9:=Tryz.zeroValue9
 t20:=Tryz.underlying20
 a20:=Tryz.isAgg20
 z20:=Tryz.sizeOf20
 v20:=Tryz.zeroValue20
 t37:=Tryz.underlying22
 a37:=Tryz.isAgg22
 z37:=Tryz.sizeOf22
 v37:=Tryz.zeroValue22
 t46:=Tryz.underlying168
 a46:=Tryz.isAgg168
 z46:=Tryz.sizeOf168
 v46:=Tryz.zeroValue168
 t51:=Tryz.underlying196
 a51:=Tryz.isAgg196
 z51:=Tryz.sizeOf196
 v51:=Tryz.zeroValue196
 t53:=Tryz.underlying166
 a53:=Tryz.isAgg166
 z53:=Tryz.sizeOf166
 v53:=Tryz.zeroValue166
 t171:=Tryz.underlying180
 a171:=Tryz.isAgg180
 z171:=Tryz.sizeOf180
 v171:=Tryz.zeroValue180
 t173:=Tryz.underlying183
 a173:=Tryz.isAgg183
 z173:=Tryz.sizeOf183
 v173:=Tryz.zeroValue183
 t212:=Tryz.underlying206
 a212:=Tryz.isAgg206
 z212:=Tryz.sizeOf206
 v212:=Tryz.zeroValue206
 t213:=Tryz.underlying207
 a213:=Tryz.isAgg207
 z213:=Tryz.sizeOf207
 t232:=Tryz.underlying218
 a232:=Tryz.isAgg218
 z232:=Tryz.sizeOf218
 v232:=Tryz.zeroValue218
 t233:=Tryz.underlying219
 a233:=Tryz.isAgg219
 z233:=Tryz.sizeOf219
 v233:=Tryz.zeroValue219
 g17:=by kernel_rfl
 g18:=by kernel_rfl
 g19:=by kernel_rfl
 i0:=by kernel_rfl
 i2:=by kernel_rfl
 i3:=by kernel_rfl
 i4:=by kernel_rfl
 i5:=by kernel_rfl
 i9:=by kernel_rfl
 i20:=by kernel_rfl
 i37:=by kernel_rfl
 i46:=by kernel_rfl
 i51:=by kernel_rfl
 i53:=by kernel_rfl
 i171:=by kernel_rfl
 i173:=by kernel_rfl
 i212:=by kernel_rfl
 i232:=by kernel_rfl
 i233:=by kernel_rfl
 m17:=by kernel_rfl
 m18:=by kernel_rfl
 m19:=by kernel_rfl}
theorem Tryz.Builder_Extra_169:Builder.Extra Tryz.prog Tryz.bstrA_ren:={
 sizeBuilder:=by kernel_rfl
 liesBuilder:=by kernel_rfl
 t5:=Tryz.underlying5
 a5:=Tryz.isAgg5
 z5:=Tryz.sizeOf5
 v5:=Tryz.zeroValue5
 infoByte:=by kernel_rfl
 cellsByte:=by kernel_rfl
 sizeByte:=by kernel_rfl
 neB5:=by decide}
theorem Tryz.Builder_Extra_156:Builder.Extra Tryz.prog Tryz.joinA_ren:={
 sizeBuilder:=by kernel_rfl
 liesBuilder:=by kernel_rfl
 t5:=Tryz.underlying5
 a5:=Tryz.isAgg5
 z5:=Tryz.sizeOf5
 v5:=Tryz.zeroValue5
 infoByte:=by kernel_rfl
 cellsByte:=by kernel_rfl
 sizeByte:=by kernel_rfl
 neB5:=by decide}
open Go.RowKit in
theorem Tryz.Builder_String_any(B b:Nat)(l:List UInt8)(w:World)(h:Lib.IsBuilder 69 5 B b (Lib.byteCells l) w)(hBw:B≤w.heap.size):
 Calls Tryz.prog 39 #[.pointer (some ⟨b,0,none⟩)] w fun e w'=>e= .returned (.string ⟨l.toArray⟩)∧Below B w w':=Any.Builder_String_any Tryz.bstrA Tryz.Builder_Extra_169 B b l w h hBw
open Go.RowKit Go.Sort Go.Lib in
theorem Tryz.strconv_FormatInt_10(n:Int)(h0: -9223372036854775808≤n)(h1:n≤9223372036854775807)(w:World)(htab:Lib.TabIs Tryz.prog w "internal/strconv.uint64pow10" .u64 Lib.pow10Tab):
 Calls Tryz.prog 108 #[.int .i64 n,.int .i64 10] w fun e w'=>e= .returned (.string ⟨(Lib.itoa n).toArray⟩)∧∃k os,w'=grow (w.drewN k) os:=Any.strconv_FormatInt_10 Tryz.fmtA n h0 h1 w htab
open Go.RowKit in
theorem Tryz.strings_Join(bk o c:Nat)(xs:List ByteArray)(sep:ByteArray)(w:World)
 (hcells:∀(j:Nat) x,xs[j]? =some x→w.cell? ⟨bk,o+j,none⟩=some (.string x))
 (hbk:bk<w.heap.size)(hN:xs.length≤140737488355328)(hcap:xs.length≤c)
 (hlen:(Lib.join (xs.map (·.data.toList)) sep.data.toList).length≤140737488355328):
 Calls Tryz.prog 74 #[.slice (some ⟨bk,o,none⟩) xs.length c,.string sep] w fun e w'=>e= .returned (.string ⟨(Lib.join (xs.map (·.data.toList)) sep.data.toList).toArray⟩)∧Below w.heap.size w w':=Any.strings_Join Tryz.joinA Tryz.Builder_Extra_156 bk o c xs sep w hcells hbk hN hcap hlen
theorem decL_lib(n:Nat):Lib.decDigits n=decL n:=by
 induction n using Nat.strongRecOn with
 |_ n ih=>
  by_cases h:n<10
  ·rw[decL_small h,Lib.decDigits,dif_pos h]
  ·rw[decL_big h,Lib.decDigits,dif_neg h,ih (n/10) (by omega)]
def Tab(w:World):Prop:=Lib.TabIs Tryz.prog w "internal/strconv.uint64pow10" .u64 Lib.pow10Tab
theorem Tryz.tabSome:(Tryz.prog.globalNamed "internal/strconv.uint64pow10").isSome=true:=by kernel_rfl
theorem Tryz.tabNamed:∃g,Tryz.prog.globalNamed "internal/strconv.uint64pow10" =some g:=Option.isSome_iff_exists.1 Tryz.tabSome
theorem Tab.below{w w':World}(h:Tab w)(hb:Below w.heap.size w w'):Tab w':=by
 obtain⟨g,hg⟩:=Tryz.tabNamed;unfold Tab Lib.TabIs at *;refine var?_below hb hg ?_ h;rcases Nat.lt_or_ge g w.heap.size with h'|h'
 ·exact h'
 ·exfalso;simp[World.var?,hg,Array.getElem?_eq_none h']at h
theorem decimal_any(x:Int)(w:World)(h0:0≤x)(h1:x≤10000000000)(ht:Tab w):
 Calls Tryz.prog 75 #[.int .i64 x] w fun e w'=>e= .returned (.string ⟨(decL x.toNat).toArray⟩)∧Below w.heap.size w w':=by
 go_enter Tryz.func75,Tryz.ntmps75
 go_wp2_with fail
 refine(Tryz.strconv_FormatInt_10 x (by omega) (by omega) w ht).mono ?_;rintro e w' ⟨rfl,k,os,rfl⟩;have e1:Lib.itoa x=decL x.toNat:=by
  unfold Lib.itoa;rw[if_neg (by omega),decL_lib]
 have hb:Below w.heap.size w (Sort.grow (w.drewN k) os):=Lib.below_grow _ w (Nat.le_refl _) k os;rw[e1];generalize Sort.grow (w.drewN k) os=W at *;go_wp2;go_ret;exact⟨rfl,hb⟩
theorem Tryz.size78:(Tryz.prog.info? 69).map (·.size)=some 2:=by kernel_rfl
theorem Tryz.lies78:liesAt Tryz.prog Tryz.prog.depth 69 (2/Tryz.prog.cellsOf 69) 0 69 1=true:=by kernel_rfl
theorem Tryz.info5:(Tryz.prog.info? 5).map (fun i=>(i.zero,i.size,i.bytes))=some (some (.int .u8 0),1,1):=by kernel_rfl
def Keeps5(b:Nat)(w w':World):Prop:=∀(P:Nat) (cs:Array Value) (T:Nat),T≠5→P≠b→w.heap[P]? =some (.cells cs T (0,0))→w'.heap[P]? =some (.cells cs T (0,0))
theorem copyCheck_T(T:Nat)(hT:liesAt Tryz.prog Tryz.prog.depth T (2/Tryz.prog.cellsOf T) 0 69 1=true)(B b:Nat)(bs:List Value)(w:World)(h:Lib.IsBuilder T 5 B b bs w):
 Calls Tryz.prog 106 #[.pointer (some ⟨b,0,none⟩)] w fun e w'=>e= .returned (.tuple #[])∧Lib.BuilderAt T 5 B b (.pointer (some ⟨b,0,none⟩)) bs w'∧Below B w w'∧Keeps5 b w w':=by
 obtain⟨j,hj,hjs⟩:=Option.map_eq_some_iff.1 Tryz.size78;rcases h with h|h
 ·have c0:=h.cell0;have fz:=h.frozen0;have sh:=h.shape;have k1:=Lib.run_to_unsafe (P:=Tryz.prog) w (e:=T) (cells:=2) ⟨b,0,none⟩ Tryz.underlying67 Tryz.underlying169 hj (by rw[hjs];decide) sh (by simp);have k2:=Lib.run_from_unsafe (P:=Tryz.prog) w (e:=T) (cells:=2) ⟨b,0,none⟩ Tryz.underlying169 Tryz.underlying67 hj sh hT;have U:=h.used (.pointer (some ⟨b,0,none⟩));have hb:Below B w (w.setCell ⟨b,0,none⟩ (.pointer (some ⟨b,0,none⟩))):=(Below.refl B w).setCell (p:=⟨b,0,none⟩) h.1 _;have kp:Keeps5 b w (w.setCell ⟨b,0,none⟩ (.pointer (some ⟨b,0,none⟩))):=fun P cs T _ hP hh=>(blk_setCell_other _ _ _ _ (by dsimp only;exact hP)).trans hh;clear h hj hjs sh;go_enter Tryz.func106,Tryz.ntmps106
  go_wp2;rw[run_callFunc_extern Tryz.func127 (by kernel_rfl) (by kernel_rfl) (by kernel_rfl) (e:=Extern.AbiNoEscape.same) (by kernel_rfl),Lib.run_noEscape];simp only[Result.andThen];rw[Oper.upon_value];go_wp2;exact bodyPost_end (v:= .tuple #[]) (by simp[results,Tryz.results106,go_sem]) rfl ⟨rfl,U,hb,kp⟩
 ·have c0:=h.cell0;have k1:=Lib.run_neq_ptr_same (P:=Tryz.prog) w ⟨b,0,none⟩ Tryz.underlying67 hj;have hb:=Below.refl B w;clear hj hjs;go_enter Tryz.func106,Tryz.ntmps106
  go_wp2;exact bodyPost_end (v:= .tuple #[]) (by simp[results,Tryz.results106,go_sem]) rfl ⟨rfl,h,hb,fun _ _ _ _ _ hh=>hh⟩
theorem writeString_T(T:Nat)(hT:liesAt Tryz.prog Tryz.prog.depth T (2/Tryz.prog.cellsOf T) 0 69 1=true)(hT5:T≠5)(B b:Nat)(bs:List Value)(s:ByteArray)(w:World)(h:Lib.IsBuilder T 5 B b bs w)(hlen:bs.length+s.size≤140737488355328)(hBw:B≤w.heap.size):
 Calls Tryz.prog 73 #[.pointer (some ⟨b,0,none⟩),.string s] w fun e w'=>e= .returned (.tuple #[.int .i64 s.size,.nilIface])∧Lib.IsBuilder T 5 B b (bs++Lib.strCells s) w'∧Below B w w'∧Keeps5 b w w':=by
 obtain⟨i0,hi,hz0,hz1,hz2⟩:=info_parts Tryz.info5;go_enter Tryz.func73,Tryz.ntmps73
 go_wp2_with fail
 refine(copyCheck_T T hT B b bs w h).mono ?_;rintro e w1 ⟨rfl,h1,hb1,kp1⟩;obtain⟨hB,v,hbk,hown,hne⟩:=h1;obtain⟨ua,uc,rfl⟩:=ownsRow_shape hown;have c0:w1.cell? ⟨b,0,none⟩=some (.pointer (some ⟨b,0,none⟩)):=by rw[Lib.cell_of_heap hbk];rfl
 have c1:w1.cell? ⟨b,1,none⟩=some (.slice ua bs.length uc):=by rw[Lib.cell_of_heap hbk];rfl
 have hw1:B≤w1.heap.size:=Nat.le_trans hBw hb1.size;have HO:Hid (w1.ownsRow B 5 1 (.slice ua bs.length uc) bs.length bs):=hown;have hm1:bs.length+s.size≤maxLen:=by unfold maxLen;omega
 clear hown h;go_wp2_with(at_builtin;(refine Lib.wpList_append_own_string _ rfl _ _ 22 9 rfl B 5 i0 Tryz.underlying22 Tryz.underlying9 hi hz0 hz1 hz2 _ _ _ rfl HO.out s rfl hm1 hlen hw1 ?_;intro v' w2 hown' hgrow _;obtain⟨va,vc,rfl⟩:=ownsRow_shape hown';have hbk2:=(hgrow.block b (Array.getElem?_eq_some_iff.1 hbk).1 (fun e=>hne e.symm)).trans hbk;have q0:w2.cell? ⟨b,0,none⟩=some (.pointer (some ⟨b,0,none⟩)):=(by rw[Lib.cell_of_heap hbk2];rfl);have q1:w2.cell? ⟨b,1,none⟩=some (.slice ua bs.length uc):=(by rw[Lib.cell_of_heap hbk2];rfl);have qf:=Lib.frozen_of_heap hbk2 1))
 have e1:bs.length+s.size=(bs++Lib.strCells s).length:=by rw[List.length_append,Lib.strCells_length]
 have hP:Lib.IsBuilder T 5 B b (bs++Lib.strCells s) (w2.setCell ⟨b,1,none⟩ (.slice va (bs.length+s.size) vc)):=Or.inr (Lib.BuilderAt.put hB hbk2 (by rw[←e1];exact hown') hT5);have hb2:Below B w w2:=hb1.grown hgrow hw1 (fun k hk=>(World.ownsRow.lt HO.out k hk).1);exact bodyPost_ret (v:= .tuple #[.int .i64 s.size,.nilIface]) (by simp[results,Tryz.results73,go_sem]) rfl ⟨rfl,hP,hb2.setCell hB _,fun P cs T hT hPb hh=>(blk_setCell_other _ _ _ _ (by dsimp only;exact hPb)).trans ((hgrow.block P (Array.getElem?_eq_some_iff.1 (kp1 P cs T hT hPb hh)).1 (fun e=>Lib.ownBlock_ne HO.out (kp1 P cs T hT hPb hh) hT e.symm)).trans (kp1 P cs T hT hPb hh))⟩
theorem writeString_any(B b:Nat)(bs:List Value)(s:ByteArray)(w:World)(h:Lib.IsBuilder 69 5 B b bs w)(hlen:bs.length+s.size≤140737488355328)(hBw:B≤w.heap.size):
 Calls Tryz.prog 73 #[.pointer (some ⟨b,0,none⟩),.string s] w fun e w'=>e= .returned (.tuple #[.int .i64 s.size,.nilIface])∧Lib.IsBuilder 69 5 B b (bs++Lib.strCells s) w'∧Below B w w'∧Keeps5 b w w':=writeString_T 69 Tryz.lies78 (by decide) B b bs s w h hlen hBw
theorem Tryz.lies80:liesAt Tryz.prog Tryz.prog.depth 71 (2/Tryz.prog.cellsOf 71) 0 69 1=true:=by kernel_rfl
theorem bString_T(T B b:Nat)(l:List UInt8)(w:World)(h:Lib.IsBuilder T 5 B b (Lib.byteCells l) w)(h0:l≠[]):
 Calls Tryz.prog 39 #[.pointer (some ⟨b,0,none⟩)] w fun e w'=>e= .returned (.string ⟨l.toArray⟩)∧Below B w w':=by
 obtain⟨p,hB,v,hbk,hown,hne⟩:∃p,Lib.BuilderAt T 5 B b p (Lib.byteCells l) w:=by
  rcases h with h|h
  ·exact⟨_,h⟩
  ·exact⟨_,h⟩
 have hl0:l.length≠0:=by simpa using h0
 rw[Lib.byteCells_length]at hown;obtain⟨g,cap,cur,rfl,hbg,hg,hnc,hcm,hcs,htake⟩:∃g cap cur,v= .slice (some ⟨g,0,none⟩) l.length cap∧B≤g∧w.heap[g]? =some (.cells cur 5 (0,0))∧l.length≤cap∧cap≤maxLen∧cur.size=cap*1∧cur.toList.take (l.length*1)=Lib.byteCells l:=by
  rcases hown.2 with⟨_,hz⟩|⟨g,cap,cur,hv,r⟩
  ·exact absurd hz hl0
  ·exact⟨g,cap,cur,hv,r⟩
 have c1:w.drew.cell? ⟨b,1,none⟩=some (.slice (some ⟨g,0,none⟩) l.length cap):=by
  have:w.drew.heap[b]? =some (.cells #[p,.slice (some ⟨g,0,none⟩) l.length cap] T (0,0)):=hbk;rw[Lib.cell_of_heap this];rfl
 have hSD:(Builtin.unsafeSliceData_ #[22] 129 #[.slice (some ⟨g,0,none⟩) l.length cap]).run Tryz.prog w.drew= .ok (.pointer (some ⟨g,0,none⟩)) w.drew:=
  Lib.run_unsafeSliceData_row _ _ _ _ _ _ (by omega)
 have hUS:(Builtin.unsafeString_ #[129,3] 9 #[.pointer (some ⟨g,0,none⟩),.int .i64 l.length]).run Tryz.prog w.drew= .ok (.string ⟨l.toArray⟩) (w.drew.freeze ⟨g,0,none⟩ l.length):=by
  refine Lib.run_unsafeString_row w.drew 129 3 9 5 Tryz.underlying129 (by kernel_rfl) g cur.size (by have hg':w.drew.heap[g]? =some (.cells cur 5 (0,0)):=hg;simp[World.shape?,hg']) l h0 (by omega) (by unfold maxLen at hcm;omega) ?_;intro j x hx;have:=hown.cells (g:=g) rfl j (.int .u8 x.toNat) (by simp[Lib.byteCells,hx]);exact this
 have mixed:Tryz.prog.follows .mixedOrders=true:=by kernel_rfl
 go_enter Tryz.func39,Tryz.ntmps39
 go_wp2;go_region_o;all_goals(go_wp2;go_ret;exact⟨rfl,Lib.below_freeze (Below.drew (Below.refl B w)) (p:=⟨g,0,none⟩) hbg _⟩)
theorem isBuilder_below{T e B b:Nat}{bs:List Value}{w w':World}(h:Lib.IsBuilder T e B b bs w)(hb:Below w.heap.size w w'):Lib.IsBuilder T e B b bs w':=by
 have aux:∀p,Lib.BuilderAt T e B b p bs w→Lib.BuilderAt T e B b p bs w':=by
  rintro p ⟨h1,v,hbk,ho,hne⟩;refine⟨h1,v,(hb.block b (Array.getElem?_eq_some_iff.1 hbk).1).trans hbk,⟨ho.1,?_⟩,hne⟩;rcases ho.2 with h2|⟨g,cap,cur,hv,hbg,hg,hr⟩
  ·exact .inl h2
  ·exact .inr ⟨g,cap,cur,hv,hbg,(hb.block g (Array.getElem?_eq_some_iff.1 hg).1).trans hg,hr⟩
 rcases h with h|h
 ·exact .inl (aux _ h)
 ·exact .inr (aux _ h)
theorem isBuilder_lt{T e B b:Nat}{bs:List Value}{w:World}(h:Lib.IsBuilder T e B b bs w):b<w.heap.size:=by
 rcases h with h|h<;>exact h.lt
theorem byte_app(a b:List UInt8):Lib.byteCells a++Lib.byteCells b=Lib.byteCells (a++b):=by simp[Lib.byteCells]
theorem size_of(l:List UInt8):(⟨l.toArray⟩:ByteArray).size=l.length:=by simp[ByteArray.size]
theorem implText_any(base:Int)(a:Option Addr)(n cap:Nat)(f g:Nat→Int)(w:World)(hn:n≤maxLen)(hc:CatsAt w a n f g)(ht:Tab w):
 Calls Tryz.prog 34 #[.agg #[.int .i64 base,.slice a n cap]] w fun e w'=>e= .returned (.string ⟨(ltext base n f g).toArray⟩)∧Below w.heap.size w w':=by
 have L0:=(Below.refl _ w).alloc (Nat.le_refl _) (.cells #[.int .i64 base,.slice a n cap] 30);have A0:=Blk.new w (.cells #[.int .i64 base,.slice a n cap] 30);obtain⟨x1,x2⟩:=A0.two;go_enter Tryz.func34,Tryz.ntmps34
 go_wp2_with fail
 refine(implOk_any _ _ _ _ f g _ hn (hc.below L0)).mono ?_;rintro e w1 ⟨rfl,hb1⟩;have L1:Below w.heap.size w w1:=L0.trans (hb1.mono L0.size);have A1:=A0.below hb1;clear x1 x2 A0 L0 hb1;cases h:labOk base n f g with
 |false=>
  go_wp2;go_ret;exact⟨by simp[ltext,h],L1⟩
 |true=>
  obtain⟨h1,h2,h3⟩:=labOk_out h;have h1':=inB_iff.1 h1;have hf:∀i,i<n→0≤f i∧f i≤9999:=fun i hi=>by have:=catOk_iff.1 (h3 i hi);omega
  have hg:∀i,i<n→0≤g i∧g i≤9999:=fun i hi=>by have:=catOk_iff.1 (h3 i hi);omega
  have HE:Hid (ltext base n f g=txt base (catsTo f g n)):=(by simp[ltext,h]:ltext base n f g=txt base (catsTo f g n));clear h3 h1 h;have I2:=Lib.fresh_isBuilder 69 5 w1;have K2:=(Below.refl _ w1).alloc (Nat.le_refl _) (.cells #[.pointer none,.slice none 0 0] 69);have A2:=A1.below K2;have L2:Below w.heap.size w (w1.alloc (.cells #[.pointer none,.slice none 0 0] 69)):=L1.trans (K2.mono L1.size);have sA:w.heap.size<w1.heap.size:=A1.lt;clear A1 K2 L1;obtain⟨x1,x2⟩:=A2.two;go_wp2_with fail
  generalize w1.alloc (.cells #[.pointer none,.slice none 0 0] 69)=V at *;refine(decimal_any base V (by omega) (by omega) (ht.below L2)).mono ?_;rintro e w3 ⟨rfl,hb3⟩;have A3:=A2.below hb3;have I3:=isBuilder_below I2 hb3;have L3:Below w.heap.size w w3:=L2.trans (hb3.mono L2.size);have ld:=decL_len base.toNat;clear x1 x2 A2 I2 L2 hb3;go_wp2_with fail
  refine(writeString_any w1.heap.size w1.heap.size [] _ w3 I3 (by rw[size_of];simp;omega) (Nat.le_of_lt (isBuilder_lt I3))).mono ?_;rintro e w4 ⟨rfl,I4,hb4,kp4⟩;have A4:Blk w4 w.heap.size (.cells #[.int .i64 base,.slice a n cap] 30):=kp4 _ _ _ (by decide) (by omega) A3;have L4:Below w.heap.size w w4:=L3.trans (hb4.mono (by omega));have J4:Lib.IsBuilder 69 5 w1.heap.size w1.heap.size (Lib.byteCells (txt base (catsTo f g 0))) w4:=by
   have e0:txt base (catsTo f g 0)=decL base.toNat:=(by simp[txt,catsTo]);rw[e0];exact I4
  clear A3 I3 L3 I4 hb4 kp4;obtain⟨x1,x2⟩:=A4.two;go_wp2_with fail
  go_loopw [16] (fun i wr=>∃k:Nat,k≤n∧i= .int .i64 k∧Lib.IsBuilder 69 5 w1.heap.size w1.heap.size (Lib.byteCells (txt base (catsTo f g k))) wr∧Below w.heap.size w wr∧w1.heap.size<wr.heap.size) (fun i _=>n-(intOf i).toNat)
  case atStart=>exact⟨0,Nat.zero_le _,rfl,J4,L4,isBuilder_lt J4⟩
  case round=>
   obtain⟨k,hk,rfl,I,Lr,sr⟩:=hrel;clear J4 L4 A4 x1 x2;by_cases hlt:k<n
   ·have hki:(k:Int)<(n:Int):=(by omega);obtain⟨b,off,rfl,hbl,hcc⟩:=(hc.below Lr) (by omega);obtain⟨c1,c2⟩:=hcc k hlt;have hf0:=hf k hlt;have hg0:=hg k hlt;have hD1:=decL_len (f k).toNat;have hD2:=decL_len (g k).toNat;have lk:=txt_len base f g k (by omega) (fun i hi=>by have:=hf i (by omega);have:=hg i (by omega);omega);have HT:Hid (txt base (catsTo f g (k+1))=txt base (catsTo f g k)++44::(decL (f k).toNat++58::decL (g k).toNat)):=by
     show _=_;rw[catsTo_succ,txt_snoc];rfl
    have tr:Tab wr:=ht.below Lr;have P1:Hid (∀v:World,Below wr.heap.size wr v→Calls Tryz.prog 75 #[.int .i64 (f k)] v fun e w'=>e= .returned (.string ⟨(decL (f k).toNat).toArray⟩)∧Below v.heap.size v w'):=fun v hv=>decimal_any (f k) v hf0.1 (by omega) (tr.below hv);have P2:Hid (∀v:World,Below wr.heap.size wr v→Calls Tryz.prog 75 #[.int .i64 (g k)] v fun e w'=>e= .returned (.string ⟨(decL (g k).toNat).toArray⟩)∧Below v.heap.size v w'):=fun v hv=>decimal_any (g k) v hg0.1 (by omega) (tr.below hv);have KC:=(Below.refl _ wr).alloc (Nat.le_refl _) (.cells #[.int .i64 (f k),.int .i64 (g k)] 88);have Cd:Blk (wr.alloc (.cells #[.int .i64 (f k),.int .i64 (g k)] 88)).drew wr.heap.size (.cells #[.int .i64 (f k),.int .i64 (g k)] 88):=Blk.new wr _;have Id:Lib.IsBuilder 69 5 w1.heap.size w1.heap.size (Lib.byteCells (txt base (catsTo f g k))) (wr.alloc (.cells #[.int .i64 (f k),.int .i64 (g k)] 88)).drew:=isBuilder_below I KC.drew;have Kd:Below wr.heap.size wr (wr.alloc (.cells #[.int .i64 (f k),.int .i64 (g k)] 88)).drew:=KC.drew;clear hcc hc hf hg HE tr KC;generalize hTe:txt base (catsTo f g k)=T at *;generalize hE1:decL (f k).toNat=D1 at *;generalize hE2:decL (g k).toNat=D2 at *;generalize f k=fk at *;generalize g k=gk at *;have r1:¬9223372036854775807<1+D1.length:=(by omega);have r2:¬9223372036854775807<1+D1.length+1:=(by omega);have r3:¬9223372036854775807<1+D1.length+1+D2.length:=(by omega);have r4:(Lib.byteCells T).length+(1+D1.length+1+D2.length)≤140737488355328:=(by rw[Lib.byteCells_length];omega);clear hTe hE1 hE2 hD1 hD2 lk hf0 hg0;have es:((((⟨#[44]⟩:ByteArray)++⟨D1.toArray⟩)++⟨#[58]⟩)++⟨D2.toArray⟩)=⟨(44::(D1++58::D2)).toArray⟩:=by
     have ea:(⟨#[44]⟩:ByteArray)=⟨[44].toArray⟩:=rfl;have eb:(⟨#[58]⟩:ByteArray)=⟨[58].toArray⟩:=rfl;rw[ea,eb,bytes_app,bytes_app,bytes_app];simp
    have HL:Hid ((Lib.byteCells T).length+((((⟨#[44]⟩:ByteArray)++⟨D1.toArray⟩)++⟨#[58]⟩)++⟨D2.toArray⟩).size≤140737488355328):=by
     show _≤_;rw[es,size_of];simp only[List.length_cons,List.length_append];omega
    have HES:Hid (((((⟨#[44]⟩:ByteArray)++⟨D1.toArray⟩)++⟨#[58]⟩)++⟨D2.toArray⟩)=⟨(44::(D1++58::D2)).toArray⟩):=es;clear es r4;go_wp2_with fail
    go_region_held3(fun w'=>w'.cell? ⟨wr.heap.size,0,none⟩=some (.int .i64 fk)∧w'.cell? ⟨wr.heap.size,1,none⟩=some (.int .i64 gk)) (go_keep)
     (first
       |(go_at_call 73;have hq:=hb8;refine(writeString_any w1.heap.size w1.heap.size _ _ _ I8 HL.out z8).mono ?_;rintro e w9 ⟨rfl,I9,hb9,kp9⟩;obtain⟨t1,t2⟩:=Blk.two (kp9 _ _ _ (by decide) (by omega) C8))
       |(go_at_call 75;have hq:=hb7;refine(P2.out _ K7).mono ?_;rintro e w8 ⟨rfl,hb8⟩;have C8:=C7.below hb8;have I8:=isBuilder_below I7 hb8;have z8:=Nat.le_of_lt (isBuilder_lt I8);obtain⟨v1,v2⟩:=C8.two)
       |(go_at_call 75;refine(P1.out _ Kd).mono ?_;rintro e w7 ⟨rfl,hb7⟩;have C7:=Cd.below hb7;have K7:Below wr.heap.size wr w7:=Kd.trans (hb7.mono Kd.size);have I7:=isBuilder_below Id hb7;obtain⟨y1,y2⟩:=C7.two))
    have L9:Below w.heap.size w w9:=(Lr.trans ((K7.trans (hb8.mono K7.size)).mono Lr.size)).trans (hb9.mono (by omega));have I9':Lib.IsBuilder 69 5 w1.heap.size w1.heap.size (Lib.byteCells (txt base (catsTo f g (k+1)))) w9:=by
     rw[HT.out,←byte_app];rw[HES.out]at I9;exact I9
    go_wp2;go_roundw;case rel=>exact⟨k+1,by omega,by go_num,I9',L9,isBuilder_lt I9'⟩
    case measure=>simp[intOf];omega
   ·have hki:¬(k:Int)<(n:Int):=(by omega);obtain rfl:k=n:=by omega
    go_wp2_with fail
    refine(Tryz.Builder_String_any w1.heap.size w1.heap.size _ _ I (by omega)).mono ?_;rintro e w6 ⟨rfl,hb6⟩;have L6:Below w.heap.size w w6:=Lr.trans (hb6.mono (by omega));clear I hb6;go_wp2;go_ret;exact⟨by rw[HE.out];rfl,L6⟩
open Go.WideShapes (add_plain)
def scells(l:List ByteArray):List Value:=l.map Value.string
def OwnS(w:World)(B:Nat)(v:Value)(l:List ByteArray):Prop:=w.ownsRow B 9 1 v l.length (scells l)
theorem OwnS.below{w w':World}{B:Nat}{v:Value}{l:List ByteArray}(h:OwnS w B v l)(hb:Below w.heap.size w w'):OwnS w' B v l:=by
 refine⟨h.1,?_⟩;rcases h.2 with hn|⟨g,cap,cur,hv,hbg,hg,rest⟩
 ·exact .inl hn
 ·exact .inr ⟨g,cap,cur,hv,hbg,(hb.block g (Array.getElem?_eq_some_iff.1 hg).1).trans hg,rest⟩
theorem OwnS.alloc{w:World}{B:Nat}{v:Value}{l:List ByteArray}(h:OwnS w B v l)(o:Obj):OwnS (w.alloc o) B v l:=World.ownsRow.alloc h o
theorem one_str{w:World}(x:ByteArray):LiesC (w.alloc (.cells #[.string x] 9)) (some ⟨w.heap.size,0,none⟩) 1 [.string x]:=fun _=>
 ⟨w.heap.size,0,rfl,by simp,fun j u hu=>by
   cases j with
   |zero=>simp at hu;subst hu;simp
   |succ j=>simp at hu⟩
theorem wpList_append_str{ops:Array Oper}{rest:List Oper}{o:Oper}{a:Act}{Q:Exit→Act→World→Prop}(w:World)(hgd:o.guard=none)(s x:Operand)
 (ho:o.op= .call {callee:= .builtin .append,args:=#[s,x],argTypes:=#[40,40]})
 (B:Nat)(v:Value)(l:List ByteArray)(hs:a.eval s=v)(hown:OwnS w B v l)(ad:Option Addr)(c:Nat)(r:ByteArray)(hx:a.eval x= .slice ad 1 c)(hc:LiesC w ad 1 [.string r])
 (hm:l.length≤2000000)(hB:B≤w.heap.size)
 (h:∀g c' w',OwnS w' B (.slice (some ⟨g,0,none⟩) (l++[r]).length c') (l++[r])→w.grownBy w' v.ownBlock→wpList Tryz.prog ops Q rest (a.put o.dst (.slice (some ⟨g,0,none⟩) (l++[r]).length c')) w'):wpList Tryz.prog ops Q (o::rest) a w:=by
 refine wpList_plain hgd fun _ hK=>wp_append_gen Tryz.underlying40 Tryz.info9 rfl (by omega) w s x ho B v l.length _ hs hown ad 1 c [.string r] hx (by simp) hc (fun u hu=>by simp at hu;subst hu;rfl) (by omega) (by omega) hB fun a' c' w' h2 h3 _=>hK _ _ ?_;have e1:scells l++[Value.string r]=scells (l++[r]):=by simp[scells]
 have e2:l.length+1=(l++[r]).length:=by simp
 rw[e1]at h2;obtain⟨g,cap,hv,_,_⟩:=World.ownsRow.form h2 (by omega);simp only[Value.slice.injEq]at hv;obtain⟨rfl,_,_⟩:=hv;rw[e2]at h2 ⊢;exact h g c' w' h2 h3
def decB(x:Int):ByteArray:=⟨(decL x.toNat).toArray⟩
theorem dec_any(x:Int)(w:World)(h0:0≤x)(h1:x≤10000000000)(ht:Tab w):Calls Tryz.prog 75 #[.int .i64 x] w fun e w'=>e= .returned (.string (decB x))∧Below w.heap.size w w':=decimal_any x w h0 h1 ht
end Go.Proofs.YtbacmamplkdgaaaGreatDoor
