import Derived.WalkSmall
import Derived.Test.YtefoofaocbjdoaaGreatDoorZ7s
set_option maxRecDepth 100000
set_option maxHeartbeats 4000000
namespace Go.Proofs.YtefoofaocbjdoaaGreatDoor
open Go.RowKit Go.Deep Go.Maps Go.Proofs.Tryz
def putAt(L:List Int)(x:Int):Nat:=L.findIdx (fun y=> !decide (y<x))
def DK(L:List Int)(x:Int):List Int:=if L[putAt L x]? =some x then L else L.take (putAt L x)++[x]++L.drop (putAt L x)
theorem Tq{L:List Int}{x:Int}{k:Nat}(hk:k<=L.length)(h1:∀j,j<k->AX L j<x)(h2:k=L.length∨¬AX L k<x):putAt L x=k:=by
 unfold putAt;by_cases e:k<L.length
 ·rw[List.findIdx_eq e];have h3:¬AX L k<x:=by
   rcases h2 with h2|h2
   ·omega
   ·exact h2
  refine⟨?_,fun j hj=>?_⟩
  ·simp[AX,e]at h3;simpa using h3
  ·have:=h1 j hj;have hj':j<L.length:=(by omega);simp[AX,hj']at this;simpa using this
 ·have ek:k=L.length:=by omega
  subst ek;rw[List.findIdx_eq_length];intro y hy;obtain⟨j,hj,rfl⟩:=List.getElem_of_mem hy;have:=h1 j hj;simp[AX,hj]at this;simpa using this
theorem P9(A:Addr)(cap:Nat)(L:List Int)(x:Int)(w:World)(hn:L.length<=1048576)(hcap:L.length<=cap)(hcm:cap<=maxLen)(hc:Dw w (some A) L):
 Calls prog 90 #[.slice (some A) L.length cap,.int .i64 x] w fun e w'=>∃va vc,e= .returned (.slice va (DK L x).length vc)/\Az w' w (.slice va (DK L x).length vc) (DK L x)/\Below w w w':=by
 have hi:=hc.ints;unfold maxLen at hcm;go_enter func90,ntmps90
 go_wp2;go_loop [5] (fun i=>∃k:Nat,k<=L.length/\i= .int .i64 k/\(∀j,j<k->AX L j<x)) (fun i=>L.length-(intOf i).toNat)
 case atStart=>exact⟨0,Nat.zero_le _,rfl,fun j hj=>by omega⟩
 case round=>
  obtain⟨k,hk,rfl,hall⟩:=hrel;have HA:Hid (∀j,j<k->AX L j<x):=hall;clear hall;have HC:Hid (Dw w (some A) L):=hc;by_cases hlt':k<L.length
  ·obtain⟨b,off,eA,hlt,hcc⟩:=hi (by omega);obtain rfl:A=⟨b,off,none⟩:=by simpa using eA
   have g1:=hcc k hlt';have hki:(k:Int)<(L.length:Int):=(by omega);clear hcc hc hi;by_cases t:AX L k<x
   ·go_wp2;go_round;case rel=>
     refine⟨k+1,by omega,by go_num,fun j hj=>?_⟩;by_cases e:j=k
     ·subst e;exact t
     ·exact HA.out j (by omega)
    case measure=>simp[intOf];omega
   ·have ek:putAt L x=k:=Tq (by omega) HA (.inr t);obtain⟨T,hT⟩:∃T,T=L.take k:=⟨_,rfl⟩;obtain⟨D,hD⟩:∃D,D=L.drop k:=⟨_,rfl⟩;have lT:Hid (T.length=k):=(by show _=_;rw[hT,List.length_take];omega);have lD:Hid (D.length=L.length-k):=(by show _=_;rw[hD,List.length_drop]);obtain⟨R2,hR2⟩:∃R2,R2=T++[x]:=⟨_,rfl⟩;obtain⟨R3,hR3⟩:∃R3,R3=R2++D:=⟨_,rfl⟩;have lR3:Hid (R3.length=L.length+1):=(by show _=_;rw[hR3,hR2];simp[lT.out,lD.out];omega);have lR2:Hid (R2.length=k+1):=(by show _=_;rw[hR2];simp[lT.out]);have HT:Hid (T=L.take k):=hT;have HD:Hid (D=L.drop k):=hD;have HR2:Hid (R2=T++[x]):=hR2;have HR3:Hid (R3=R2++D):=hR3;have HK:Hid (putAt L x=k):=ek;have ID:Dw w (some ⟨b,off+k,none⟩) D:=(by rw[hD];exact HC.out.drop k);clear hT hD hR2 hR3 ek;have E0:Below w w (w.alloc (.cells #[] 2)):=Be w _;have O0:=Az.made w w nr;have s0:(w.alloc (.cells #[] 2)).heap.size=w.heap.size+1:=(by simp);have ki:(k:Int)<=(L.length:Int):=(by omega);have kc:(k:Int)<=(cap:Int):=(by omega);cases t2:(AX L k==x)with
    |true=>
     have HX:Hid (L[k]? =some x):=(by show _=_;have:=beq_iff_eq.1 t2;simp[AX,hlt']at this;simp[hlt',this]);go_wp2_with(at_builtin;refine Bb _ rfl _ _ rfl w _ [] rfl O0 _ _ _ L rfl rfl (HC.out.below E0) L (by simp) (by omega) (by simp) ?_;intro a' c' w' hown' hgrow' hat')
     go_ret;have e:DK L x=L:=(by unfold DK;rw[HK.out,HX.out];simp);rw[e];exact⟨_,_,rfl,hown',E0.grown hgrow' (by simp) (fun j e=>by cases e;exact Nat.le_refl _)⟩
    |false=>
     have HX:Hid (¬L[k]? =some x):=(by show ¬_;have:=beq_eq_false_iff_ne.1 t2;simp[AX,hlt']at this;simp[hlt',this]);go_wp2_with(first
      |(at_builtin;have hq:=hown2;clear hq;refine Bb _ rfl _ _ rfl w (.slice a2 R2.length c2) R2 rfl hown2 _ _ _ D rfl lD (ID.below E2) R3 HR3 (by rw[lR3.out];omega) E2.size ?_;intro a3 c3 w3 hown3 hgrow3 hat3)
      |(at_builtin;have hq:=hown1;clear hq;refine Bb _ rfl _ _ rfl w (.slice a1 T.length c1) T rfl (hown1.alloc _) _ _ _ [x] rfl rfl (Dw.one x) R2 HR2 (by rw[lR2.out];omega) (Nat.le_trans E1.size (by simp)) ?_;intro a2 c2 w2 hown2 hgrow2 hat2;have E2:Below w w w2:=(E1.alloc E1.size _).grown hgrow2 (Nat.le_trans E1.size (by simp)) (fun j e=>(World.ownsRow.lt hown1 j e).1))
      |(at_builtin;refine Bb _ rfl _ _ rfl w (.slice (some ⟨w,0,none⟩) 0 0) [] rfl O0 _ _ _ T rfl lT ((HT.out▸HC.out.take k).below E0) T (by simp) (by rw[lT.out];omega) (by simp) ?_;intro a1 c1 w1 hown1 hgrow1 hat1;have E1:Below w w w1:=E0.grown hgrow1 (by simp) (fun j e=>by cases e;exact Nat.le_refl _)))
     go_ret;have e:DK L x=R3:=by
      unfold DK;rw[HK.out,if_neg HX.out,HR3.out,HR2.out,HT.out,HD.out]
     rw[e];exact⟨_,_,rfl,hown3,E2.grown hgrow3 E2.size (fun j e=>(World.ownsRow.lt hown2 j e).1)⟩
  ·have hkL:k=L.length:=(by omega);have ek:putAt L x=k:=Tq (by omega) HA (.inl hkL);have HK:Hid (putAt L x=k):=ek;have HKL:Hid (k=L.length):=hkL;obtain⟨R2,hR2⟩:∃R2,R2=L++[x]:=⟨_,rfl⟩;have HR2:Hid (R2=L++[x]):=hR2;have lR2:Hid (R2.length=L.length+1):=(by show _=_;rw[hR2];simp);have nk:¬(k:Int)<(L.length:Int):=(by omega);clear hR2 ek hkL hc hi;have E0:Below w w (w.alloc (.cells #[] 2)):=Be w _;have O0:=Az.made w w nr;have kc:(k:Int)<=(cap:Int):=(by omega);have bi:Hid (DK L x=R2):=by
    show _=_;unfold DK;rw[HK.out,if_neg (by rw[List.getElem?_eq_none (by have:=HKL.out;omega)];simp),HR2.out,HKL.out];simp
   go_wp2_with(first
    |(at_builtin;have hq:=hown2;clear hq;refine Bb _ rfl _ _ rfl w (.slice a2 R2.length c2) R2 rfl hown2 _ _ _ [] rfl (by have:=HKL.out;simp;omega) (Dw.none _ _) R2 (by simp) (by rw[lR2.out];omega) E2.size ?_;intro a3 c3 w3 hown3 hgrow3 hat3)
    |(at_builtin;have hq:=hown1;clear hq;refine Bb _ rfl _ _ rfl w (.slice a1 L.length c1) L rfl (hown1.alloc _) _ _ _ [x] rfl rfl (Dw.one x) R2 HR2 (by rw[lR2.out];omega) (Nat.le_trans E1.size (by simp)) ?_;intro a2 c2 w2 hown2 hgrow2 hat2;have E2:Below w w w2:=(E1.alloc E1.size _).grown hgrow2 (Nat.le_trans E1.size (by simp)) (fun j e=>(World.ownsRow.lt hown1 j e).1))
    |(at_builtin;refine Bb _ rfl _ _ rfl w (.slice (some ⟨w,0,none⟩) 0 0) [] rfl O0 _ _ _ L rfl HKL.out.symm (HC.out.below E0) L (by simp) (by omega) (by simp) ?_;intro a1 c1 w1 hown1 hgrow1 hat1;have E1:Below w w w1:=E0.grown hgrow1 (by simp) (fun j e=>by cases e;exact Nat.le_refl _)))
   all_goals
    go_ret;rw[bi.out];exact⟨_,_,rfl,hown3,E2.grown hgrow3 E2.size (fun j e=>(World.ownsRow.lt hown2 j e).1)⟩
open Go Go.BigFrame Go.Shelf
theorem Um(cap:Nat)(x:Int)(w:World):
 Calls prog 90 #[.slice none 0 cap,.int .i64 x] w fun e w'=>∃va vc,e= .returned (.slice va 1 vc)/\Az w' w (.slice va 1 vc) [x]/\Below w w w':=by
 have E0:Below w w (w.alloc (.cells #[] 2)):=Be w _;have O0:=Az.made w w nr;go_enter func90,ntmps90
 go_wp2;go_loopw [5] (fun i wr=>i= .int .i64 0/\wr=w) (fun i _=>(intOf i).toNat)
 case atStart=>exact⟨rfl,rfl⟩
 case round=>
  obtain⟨rfl,rfl⟩:=hrel;go_wp2_with(first
   |(at_builtin;have hq:=hown2;clear hq;refine Bb _ rfl _ _ rfl wr (.slice a2 1 c2) [x] rfl hown2 _ _ _ [] rfl rfl (Dw.none _ _) [x] rfl (by simp) E2.size ?_;intro a3 c3 w3 hown3 hgrow3 hat3)
   |(at_builtin;have hq:=hown1;clear hq;refine Bb _ rfl _ _ rfl wr (.slice a1 0 c1) [] rfl (hown1.alloc _) _ _ _ [x] rfl rfl (Dw.one x) [x] rfl (by simp) (Nat.le_trans E1.size (by simp)) ?_;intro a2 c2 w2 hown2 hgrow2 hat2;have E2:Below wr wr w2:=(E1.alloc E1.size _).grown hgrow2 (Nat.le_trans E1.size (by simp)) (fun j e=>(World.ownsRow.lt hown1 j e).1))
   |(at_builtin;refine Bb _ rfl _ _ rfl wr (.slice (some ⟨wr,0,none⟩) 0 0) [] rfl O0 _ _ _ [] rfl rfl (Dw.none _ _) [] rfl (by simp) (by simp) ?_;intro a1 c1 w1 hown1 hgrow1 hat1;have E1:Below wr wr w1:=E0.grown hgrow1 (by simp) (fun j e=>by cases e;exact Nat.le_refl _)))
  go_ret;exact⟨_,_,rfl,hown3,E2.grown hgrow3 E2.size (fun j e=>(World.ownsRow.lt hown2 j e).1)⟩
theorem Qm(c:AI)(x:Int)(w:World)(hc:c.at w)(hn:c.n<=1048576)(hcap:c.n<=c.k/\c.k<=maxLen):
 Calls prog 90 #[c,.int .i64 x] w fun e w'=>∃va vc,e= .returned (.slice va (DK ((List.range c.n).map c.h) x).length vc)/\Az w' w (.slice va (DK ((List.range c.n).map c.h) x).length vc) (DK ((List.range c.n).map c.h) x)/\Below w w w':=by
 have el:((List.range c.n).map c.h).length=c.n:=by simp
 cases ha:c.a with
 |some A=>
  have hi:=hc.2.intL;rw[ha]at hi;have h:=P9 A c.k ((List.range c.n).map c.h) x w (by rw[el];exact hn) (by rw[el];exact hcap.1) hcap.2 hi;rw[el]at h;exact h
 |none=>
  have h0:c.n=0:=by
   by_cases e:0<c.n
   ·obtain⟨b,off,e',_⟩:=hc.2 e;rw[ha]at e';cases e'
   ·omega
  rw[h0];exact Um c.k x w
def CN(n:Nat):List UInt8:=if h:n<10 then[UInt8.ofNat (48+n)]else CN (n/10)++[UInt8.ofNat (48+n%10)]
termination_by n
decreasing_by omega
theorem GX{n:Nat}(h:n<10):CN n=[UInt8.ofNat (48+n)]:=by rw[CN,dif_pos h]
theorem Kp{n:Nat}(h:¬n<10):CN n=CN (n/10)++[UInt8.ofNat (48+n%10)]:=by rw[CN,dif_neg h]
def MX(c:Int×Int):List UInt8:=44::(CN c.1.toNat++58::CN c.2.toNat)
def Vp(base:Int)(cats:List (Int×Int)):List UInt8:=CN base.toNat++(cats.map MX).flatten
theorem NZ(base:Int)(cats:List (Int×Int))(c:Int×Int):Vp base (cats++[c])=Vp base cats++MX c:=by simp[Vp]

theorem GN(a l:List UInt8):((⟨a.toArray⟩:ByteArray)++(⟨l.toArray⟩:ByteArray))=⟨(a++l).toArray⟩:=by
 apply ByteArray.ext;apply Array.ext';simp
theorem FJ(n:Nat):(CN n).length<=n+1:=by
 induction n using Nat.strongRecOn with
 |_ n ih=>
  by_cases h:n<10
  ·rw[GX h];simp
  ·rw[Kp h,List.length_append];have:=ih (n/10) (by omega);simp;omega
theorem Jr(n:Nat)(w:World)(hn:n<=10000000000):
 Calls prog 20 #[.int .i64 n] w fun e w'=>e= .returned (.string ⟨(CN n).toArray⟩)/\Below w w w':=by
 have hlen:=FJ n;go_enter func20,ntmps20
 go_wp2;go_loopw [0,3] (fun x s wr=>∃(k:Nat) (l:List UInt8),k<=n/\x= .int .i64 k/\s= .string ⟨l.toArray⟩/\CN n=CN k++l/\Below w w wr) (fun x _ _=>(intOf x).toNat)
 case atStart=>exact⟨n,[],Nat.le_refl _,rfl,rfl,by simp,Below.refl _ _⟩
 case round=>
  obtain⟨k,l,hk,rfl,rfl,hd,hB⟩:=hrel;have hl:l.length<=10000000001:=by
   have:=congrArg List.length hd;rw[List.length_append]at this;omega
  have HD:Hid (CN n=CN k++l):=hd;clear hd;by_cases h10:k<10
  ·have h10':¬(10:Int)<=(k:Int):=(by omega);obtain⟨b,hb⟩:∃b,b=UInt8.ofNat (48+(k:Int)).toNat:=⟨_,rfl⟩;have ob:=fun(w:World)=>one_byte w (48+(k:Int)) (by omega) (by omega);rw[<-hb]at ob;have HB:Hid (b=UInt8.ofNat (48+k)):=hb;clear hb;go_wp2;go_ret;refine⟨?_,hB.alloc hB.size _⟩;rw[JW,HD.out,GX h10,<-HB.out];rfl
  ·have h10':(10:Int)<=(k:Int):=(by omega);obtain⟨b,hb⟩:∃b,b=UInt8.ofNat (48+(k:Int)%10).toNat:=⟨_,rfl⟩;have ob:=fun(w:World)=>one_byte w (48+(k:Int)%10) (by omega) (by omega);rw[<-hb]at ob;have HB:Hid (b=UInt8.ofNat (48+k%10)):=hb;clear hb;go_wp2;go_roundw;case rel=>
    refine⟨k/10,b::l,by omega,by go_num,by rw[JW],?_,hB.alloc hB.size _⟩;rw[HD.out,Kp h10,<-HB.out,List.append_assoc];rfl
   case measure=>simp[intOf];omega
theorem Tv(b:Int)(c:Au)(w:World)(hc:c.at w):
 Calls prog 84 #[.agg #[.int .i64 b,c.val]] w fun e w'=>e= .returned (.bool (AZ b c.n c.f c.g))/\Below w w w':=G6 b c.a c.n c.k c.f c.g w hc.1 hc.2
theorem bv(c:AI)(w:World)(hc:c.at w):
 Calls prog 85 #[c.val] w fun e w'=>e= .returned (.bool (BJ c.n c.h))/\Below w w w':=Oa c.a c.n c.k c.h w hc.1 hc.2
theorem QC(t:Ab)(w:World)(ht:t.at w):
 Calls prog 55 #[t.val] w fun e w'=>e= .returned (.bool (Cq t))/\Below w w w':=by
 have n1:No (.cells #[t.id,t.kind,t.up,t.b1,t.c1.val,.string t.data,t.jA.val,t.own.val,t.b2,t.c2.val] 63):=⟨⟩;have hb0:=(Below.refl _ w).alloc nr n1;have A0:=Ah.new w n1;have T0:=hid (ht.below hb0);unfold Ab.val;obtain⟨x0,x1,x2,x3,x4,x5,x6,x7,x8,x9⟩:=A0.jE;clear ht;go_enter func55,ntmps55
 go_wp2_with fail
 refine(Tv _ t.c1 _ T0.out.1).mono ?_;rintro e w1 ⟨rfl,hb1⟩;have A1:=A0.below hb1;have T1:=hid (T0.out.below hb1);have B1:=Af hb0 hb1;clear x0 x1 x2 x3 x4 x5 x6 x7 x8 x9 A0 T0 hb0 hb1;obtain⟨x0,x1,x2,x3,x4,x5,x6,x7,x8,x9⟩:=A1.jE;cases t1:AZ t.b1 t.c1.n t.c1.f t.c1.g with
 |false=>
  go_wp2;go_ret;exact⟨Ag (by simp[Cq,t1]),B1⟩
 |true=>
 go_wp2_with fail
 refine(Tv _ t.c2 _ T1.out.2.2.2.1).mono ?_;rintro e w2 ⟨rfl,hb2⟩;have A2:=A1.below hb2;have T2:=hid (T1.out.below hb2);have B2:=Af B1 hb2;clear x0 x1 x2 x3 x4 x5 x6 x7 x8 x9 A1 T1 B1 hb2;obtain⟨x0,x1,x2,x3,x4,x5,x6,x7,x8,x9⟩:=A2.jE;cases t2:AZ t.b2 t.c2.n t.c2.f t.c2.g with
 |false=>
  go_wp2;go_ret;exact⟨Ag (by simp[Cq,t2]),B2⟩
 |true=>
 go_wp2_with fail
 refine(bv t.own _ T2.out.2.2.1).mono ?_;rintro e w3 ⟨rfl,hb3⟩;have A3:=A2.below hb3;have T3:=hid (T2.out.below hb3);have B3:=Af B2 hb3;clear x0 x1 x2 x3 x4 x5 x6 x7 x8 x9 A2 T2 B2 hb3;obtain⟨x0,x1,x2,x3,x4,x5,x6,x7,x8,x9⟩:=A3.jE;cases t3:BJ t.own.n t.own.h with
 |false=>
  go_wp2;go_ret;exact⟨Ag (by simp[Cq,t3]),B3⟩
 |true=>
 unfold AF.val at x6;have hn5:=T3.out.2.1.1;unfold maxLen at hn5;by_cases h8:8<t.jA.n
 ·have h8':(8:Int)<(t.jA.n:Int):=by omega
  go_wp2;go_ret;exact⟨Ag (by simp[Cq,Ob h8]),B3⟩
 have h8':¬(8:Int)<(t.jA.n:Int):=by omega
 go_wp2_with fail
 refine(I4 t.data _ _ T3.out.2.2.2.2).mono ?_;rintro e w4 ⟨rfl,rfl⟩;cases t4:Br t.data 40 with
 |false=>
  go_wp2;go_ret;exact⟨Ag (by simp[Cq,t4]),B3⟩
 |true=>
 have OK:Hid (Ee t.jA.n t.jA.f=true->Cq t=GU t):=hid (fun t5=>by simp[Cq,t1,t2,t3,t4,t5]);clear t1 t2 t3 t4;go_wp2;go_loop [3] (fun i=>∃k:Nat,k<=t.jA.n/\i= .int .i64 k/\Hid (∀j,j<k->Br (t.jA.f j) 40=true)) (fun i=>t.jA.n-(intOf i).toNat)
 case atStart=>exact⟨0,Nat.zero_le _,rfl,hid (fun j hj=>by omega)⟩
 case round=>
  obtain⟨k,hk,rfl,HA⟩:=hrel;by_cases hlt:k<t.jA.n
  ·obtain⟨b,off,ea,hlt0,hcc⟩:=T3.out.2.1.2.1 (by omega);rw[ea]at x6;have g1:=hcc k hlt;have z:=T3.out.2.1.2.2 k hlt;have i1:(k:Int)<(t.jA.n:Int):=(by omega);clear hcc ea;go_wp2_with fail
   refine(I4 _ _ _ z).mono ?_;rintro e w5 ⟨rfl,rfl⟩;clear g1;by_cases t5:Br (t.jA.f k) 40=true
   ·have HA2:Hid (∀j,j<k+1->Br (t.jA.f j) 40=true):=hid (fun j hj=>by
     by_cases e:j=k
     ·subst e;exact t5
     ·exact HA.out j (by omega))
    go_wp2;exact⟨⟨k+1,by omega,by go_num,HA2⟩,by simp[intOf];omega⟩
   ·have t':Br (t.jA.f k) 40=false:=(by simpa using t5);clear t5;go_wp2;go_ret;exact⟨Ag (by simp[Cq,P8 hlt t']),B3⟩
  ·have e:k=t.jA.n:=(by omega);have OK2:=hid (OK.out (by rw[NM (by rw[<-e];exact HA.out)];simp;omega));clear e OK HA;unfold AI.val at x7;unfold Au.val at x9;have hn6:=T3.out.2.2.1.1;have hn7:=T3.out.2.2.2.1.1;unfold maxLen at hn6 hn7;go_wp2;all_goals
    go_ret;refine⟨Ag ?_,by assumption⟩;rw[OK2.out];clear OK2 h8' x0 x1 x2 x3 x4 x5 x6 x7 x8 x9;first
    |(simp_all[GU,Dv,aJ];done)
    |(simp_all[GU,Dv];exact aJ _)
end Go.Proofs.YtefoofaocbjdoaaGreatDoor
