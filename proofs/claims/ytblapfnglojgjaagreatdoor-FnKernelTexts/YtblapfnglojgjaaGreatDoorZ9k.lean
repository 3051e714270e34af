import Derived.WalkSmall
import Derived.Test.YtblapfnglojgjaaGreatDoorZ8k
set_option maxRecDepth 100000
set_option maxHeartbeats 4000000
namespace Go.Proofs.YtblapfnglojgjaaGreatDoor
open Go.RowKit Go.Deep Go.Proofs.Tryz
variable {b c:UInt8}{s:ByteArray}
theorem byte_at(s:ByteArray)(k:Nat)(h:k<s.size):s.data.toList[k]? =some s[k]:=by
 have h':k<s.data.toList.length:=by simpa using h
 rw[List.getElem?_eq_getElem h'];rfl
theorem SN(h:¬(b.toNat:Int)=(c.toNat:Int)):b≠c:=fun e=>h (by rw[e])
theorem Sw(h:(b.toNat:Int)=(c.toNat:Int)):b=c:=UInt8.toNat_inj.1 (by omega)
theorem PF(s:ByteArray)(k:Nat):s.extract 0 k=⟨(s.data.toList.take k).toArray⟩:=by
 apply ByteArray.ext;apply Array.ext';simp
theorem Of(s:ByteArray)(k:Nat):s.extract k s.size=⟨(s.data.toList.drop k).toArray⟩:=by
 apply ByteArray.ext;apply Array.ext';simp only[ByteArray.data_extract,Array.toList_extract,List.extract];rw[List.take_of_length_le];simp
def cutV(c:UInt8)(L:List UInt8):Value:= .tuple #[.string ⟨(Ak c L).1.toArray⟩,.string ⟨(Ak c L).2.1.toArray⟩,.bool (Ak c L).2.2]
theorem Jj(s:ByteArray)(c:UInt8)(w:World)(hn:s.size<=maxLen):
 Calls prog 28 #[.string s,.int .u8 c.toNat] w fun e w'=>e= .returned (cutV c s.data.toList)/\Below w w w':=by
 unfold maxLen at hn;go_enter func28,ntmps28
 go_wp2;go_loop [7] (fun i=>∃k:Nat,k<=s.size/\i= .int .i64 k/\(∀j,j<k->s.data.toList[j]?≠some c)) (fun i=>s.size-(intOf i).toNat)
 case atStart=>exact⟨0,Nat.zero_le _,rfl,fun j hj=>by omega⟩
 case round=>
  obtain⟨k,hk,rfl,hall⟩:=hrel;have HA:Hid (∀j,j<k->s.data.toList[j]?≠some c):=hall;clear hall;by_cases hlt:k<s.size
  ·have hki:(k:Int)<(s.size:Int):=(by omega);by_cases hb:(s[k].toNat:Int)=(c.toNat:Int)
   ·go_wp2_with fail
    go_quiet(fail)
    go_wp2;have e:=UF c k s.data.toList HA (by rw[byte_at s k hlt,Sw hb]);refine bodyPost_ret (v:=cutV c s.data.toList) (by simp[results,Tryz.results28,go_sem,cutV,e,PF,Of]) rfl ⟨rfl,below_drewN (Below.refl _ _) _⟩
   ·go_wp2;go_round;case rel=>
     refine⟨k+1,by omega,by go_num,fun j hj=>?_⟩;by_cases e:j=k
     ·subst e;rw[byte_at s j hlt];simpa using SN hb
     ·exact HA.out j (by omega)
    case measure=>simp[intOf];omega
  ·have hki:¬(k:Int)<(s.size:Int):=(by omega);go_wp2
   have e:=RN c s.data.toList (fun j hj=>HA j (by have:j<s.size:=(by simpa using hj);omega))
   refine bodyPost_ret (v:=cutV c s.data.toList) (by simp[results,Tryz.results28,go_sem,cutV,e]) rfl ⟨rfl,Below.refl _ _⟩
def Di(L:List UInt8):Value:= .tuple #[.int .i64 (CF L),.bool (okD L)]
theorem Rb(h:¬1<=s.size):okD s.data.toList=false:=by
 have:¬1<=s.data.toList.length:=by simpa using h
 simp[okD];omega
theorem UK(h:¬s.size<=10):okD s.data.toList=false:=by
 have e:s.data.toList.length=s.size:=by simp
 have:¬s.data.toList.length<=10:=by omega
 simp only[okD,this,decide_false,Bool.and_false,Bool.false_and]
theorem UP(h0:0<s.size)(hz:s[0]=48)(h:¬s.size<=1):okD s.data.toList=false:=by
 have e:s.data.toList.length=s.size:=by simp
 have h1:¬s.data.toList.length<=1:=by omega
 have h2:s.data.toList[0]? =some 48:=by rw[byte_at s 0 h0,hz]
 simp only[okD,h1,h2,ne_eq,not_true_eq_false,decide_false,Bool.or_false,Bool.and_false,Bool.false_and]
theorem FH{k:Nat}(hk:k<s.size)(h:Bg s[k]=false):okD s.data.toList=false:=by
 have:s.data.toList.all Bg=false:=by
  rw[List.all_eq_false];exact⟨s[k],Array.getElem_mem_toList hk,by simp[h]⟩
 simp only[okD,this,Bool.and_false]
theorem Nx(h1:1<=s.size)(h2:s.size<=10)(h3:∀h:0<s.size,s[0]≠48∨s.size<=1)(h4:∀(k:Nat) (hk:k<s.size),Bg s[k]=true):okD s.data.toList=true:=by
 have e:s.data.toList.length=s.size:=by simp
 have hd:s.data.toList.all Bg=true:=by
  rw[List.all_eq_true];intro b hb;obtain⟨k,hk,rfl⟩:=List.getElem_of_mem hb;exact h4 k (by rw[<-e];exact hk)
 have hz:(decide (s.data.toList[0]?≠some 48)||decide (s.data.toList.length<=1))=true:=by
  rw[Bool.or_eq_true,decide_eq_true_eq,decide_eq_true_eq,byte_at s 0 (by omega),e];rcases h3 (by omega)with h|h
  ·exact .inl (by simpa using h)
  ·exact .inr h
 unfold okD;rw[hz,hd,e];simp[h1,h2]
theorem XY(s:ByteArray)(k:Nat)(hk:k<s.size):s.data.toList.take (k+1)=s.data.toList.take k++[s[k]]:=by
 rw[List.take_add_one,byte_at s k hk];rfl
theorem Mi(s:ByteArray)(k:Nat)(hk:k<s.size)(hd:Bg s[k]=true):(Do (s.data.toList.take (k+1)):Int)=(Do (s.data.toList.take k):Int)*10+((s[k].toNat:Int)-48):=by
 rw[XY s k hk,Jf];simp[Bg]at hd;omega
theorem Ns(s:ByteArray)(k:Nat)(hk:k<=s.size)(h10:s.size<=10)(hd:∀(j:Nat) (hj:j<s.size),j<k->Bg s[j]=true):Do (s.data.toList.take k)<10^10:=by
 have hall:(s.data.toList.take k).all Bg=true:=by
  rw[List.all_eq_true];intro b hb;obtain⟨j,hj,rfl⟩:=List.getElem_of_mem hb;rw[List.length_take]at hj;have e:s.data.toList.length=s.size:=by simp
  rw[List.getElem_take];exact hd j (by omega) (by omega)
 have h:=Ww _ hall
 have hl:(s.data.toList.take k).length<=10:=by rw[List.length_take];have e:s.data.toList.length=s.size:=(by simp);omega
 exact Nat.lt_of_lt_of_le h (Nat.pow_le_pow_right (by omega) hl)
theorem Mh(h:(b.toNat:Int)<48):Bg b=false:=by
 have:¬48<=b.toNat:=by omega
 simp[Bg,this]
theorem Lu(h:57<(b.toNat:Int)):Bg b=false:=by
 have:¬b.toNat<=57:=by omega
 simp[Bg,this]
theorem Kn(h1:¬(b.toNat:Int)<48)(h2:¬57<(b.toNat:Int)):Bg b=true:=by
 have e1:48<=b.toNat:=by omega
 have e2:b.toNat<=57:=by omega
 simp[Bg,e1,e2]
theorem Kh(s:ByteArray)(w:World)(hn:s.size<=maxLen):
 Calls prog 57 #[.string s] w fun e w'=>e= .returned (Di s.data.toList)/\w'=w:=by
 unfold maxLen at hn;by_cases h1:1<=s.size;rotate_left
 ·have h1':(s.size:Int)<1:=by omega
  have e:=Rb h1;go_enter func57,ntmps57
  go_wp2;exact bodyPost_ret (v:=Di s.data.toList) (by simp[results,Tryz.results57,go_sem,Di,CF,e]) rfl ⟨rfl,rfl⟩
 by_cases h2:s.size<=10;rotate_left
 ·have h2':(10:Int)<(s.size:Int):=by omega
  have e:=UK h2;have h1':¬(s.size:Int)<1:=by omega
  go_enter func57,ntmps57
  go_wp2;exact bodyPost_ret (v:=Di s.data.toList) (by simp[results,Tryz.results57,go_sem,Di,CF,e]) rfl ⟨rfl,rfl⟩
 have h1':¬(s.size:Int)<1:=by omega
 have h2':¬(10:Int)<(s.size:Int):=by omega
 have hp:0<s.size:=by omega
 have hp':(0:Int)<(s.size:Int):=by omega
 by_cases hz:(s[0].toNat:Int)=48
 ·by_cases h3:s.size<=1;rotate_left
  ·have h3':(1:Int)<(s.size:Int):=(by omega);have e:=UP hp (Sw (c:=48) hz) h3;go_enter func57,ntmps57
   go_wp2;exact bodyPost_ret (v:=Di s.data.toList) (by simp[results,Tryz.results57,go_sem,Di,CF,e]) rfl ⟨rfl,rfl⟩
  have h3':¬(1:Int)<(s.size:Int):=by omega
  have hyes:=Nx (s:=s) h1 h2 (fun _=> .inr h3);go_enter func57,ntmps57
  go_wp2;go_loop [4,5] (fun n i=>∃k:Nat,k<=s.size/\i= .int .i64 k/\n= .int .i64 (Do (s.data.toList.take k))/\(∀(j:Nat) (hj:j<s.size),j<k->Bg s[j]=true)) (fun _ i=>s.size-(intOf i).toNat)
  case atStart=>exact⟨0,Nat.zero_le _,rfl,rfl,fun j _ hj=>by omega⟩
  case round=>
   obtain⟨k,hk,rfl,rfl,hall⟩:=hrel;have hv:=Ns s k hk h2 hall;have HV:Hid (k<s.size->∀h:k<s.size,Bg s[k]=true->(Do (s.data.toList.take (k+1)):Int)=(Do (s.data.toList.take k):Int)*10+((s[k].toNat:Int)-48)):=fun _ h hd=>Mi s k h hd;have HE:Hid (k=s.size->s.data.toList.take k=s.data.toList):=fun e=>by rw[e];exact List.take_of_length_le (by simp)
   have HA:Hid (∀(j:Nat) (hj:j<s.size),j<k->Bg s[j]=true):=hall;clear hall;generalize hg:Do (s.data.toList.take k)=v at *;have HG:Hid (Do (s.data.toList.take k)=v):=hg;clear hg;by_cases hlt:k<s.size
   ·have hki:(k:Int)<(s.size:Int):=(by omega);by_cases d1:(s[k].toNat:Int)<48
    ·go_wp2;exact bodyPost_ret (v:=Di s.data.toList) (by simp[results,Tryz.results57,go_sem,Di,CF,FH hlt (Mh d1)]) rfl ⟨rfl,rfl⟩
    ·by_cases d2:57<(s[k].toNat:Int)
     ·go_wp2;exact bodyPost_ret (v:=Di s.data.toList) (by simp[results,Tryz.results57,go_sem,Di,CF,FH hlt (Lu d2)]) rfl ⟨rfl,rfl⟩
     ·have hd:=Kn d1 d2;have hb256:(s[k].toNat:Int)<256:=(by have:=s[k].toNat_lt;omega);go_wp2;go_round;case rel=>
       refine⟨k+1,by omega,by go_num,?_,fun j hj hjk=>?_⟩
       ·rw[HV.out hlt hlt hd]
       ·by_cases e:j=k
        ·subst e;exact hd
        ·exact HA.out j hj (by omega)
      case measure=>simp[intOf];omega
   ·have hki:¬(k:Int)<(s.size:Int):=(by omega);have ek:k=s.size:=(by omega);have e:=hyes (fun j hj=>HA j hj (by omega));have e2:=HE.out ek;have e3:Do s.data.toList=v:=(by rw[<-e2];exact HG.out);clear hyes HA HE HG HV;go_wp2;exact bodyPost_ret (v:=Di s.data.toList) (by simp[results,Tryz.results57,go_sem,Di,CF,e,e3]) rfl ⟨rfl,rfl⟩
 ·have hyes:=Nx (s:=s) h1 h2 (fun _=> .inl (SN (c:=48) hz));go_enter func57,ntmps57
  go_wp2;go_loop [4,5] (fun n i=>∃k:Nat,k<=s.size/\i= .int .i64 k/\n= .int .i64 (Do (s.data.toList.take k))/\(∀(j:Nat) (hj:j<s.size),j<k->Bg s[j]=true)) (fun _ i=>s.size-(intOf i).toNat)
  case atStart=>exact⟨0,Nat.zero_le _,rfl,rfl,fun j _ hj=>by omega⟩
  case round=>
   obtain⟨k,hk,rfl,rfl,hall⟩:=hrel;have hv:=Ns s k hk h2 hall;have HV:Hid (k<s.size->∀h:k<s.size,Bg s[k]=true->(Do (s.data.toList.take (k+1)):Int)=(Do (s.data.toList.take k):Int)*10+((s[k].toNat:Int)-48)):=fun _ h hd=>Mi s k h hd;have HE:Hid (k=s.size->s.data.toList.take k=s.data.toList):=fun e=>by rw[e];exact List.take_of_length_le (by simp)
   have HA:Hid (∀(j:Nat) (hj:j<s.size),j<k->Bg s[j]=true):=hall;clear hall;generalize hg:Do (s.data.toList.take k)=v at *;have HG:Hid (Do (s.data.toList.take k)=v):=hg;clear hg;by_cases hlt:k<s.size
   ·have hki:(k:Int)<(s.size:Int):=(by omega);by_cases d1:(s[k].toNat:Int)<48
    ·go_wp2;exact bodyPost_ret (v:=Di s.data.toList) (by simp[results,Tryz.results57,go_sem,Di,CF,FH hlt (Mh d1)]) rfl ⟨rfl,rfl⟩
    ·by_cases d2:57<(s[k].toNat:Int)
     ·go_wp2;exact bodyPost_ret (v:=Di s.data.toList) (by simp[results,Tryz.results57,go_sem,Di,CF,FH hlt (Lu d2)]) rfl ⟨rfl,rfl⟩
     ·have hd:=Kn d1 d2;have hb256:(s[k].toNat:Int)<256:=(by have:=s[k].toNat_lt;omega);go_wp2;go_round;case rel=>
       refine⟨k+1,by omega,by go_num,?_,fun j hj hjk=>?_⟩
       ·rw[HV.out hlt hlt hd]
       ·by_cases e:j=k
        ·subst e;exact hd
        ·exact HA.out j hj (by omega)
      case measure=>simp[intOf];omega
   ·have hki:¬(k:Int)<(s.size:Int):=(by omega);have ek:k=s.size:=(by omega);have e:=hyes (fun j hj=>HA j hj (by omega));have e2:=HE.out ek;have e3:Do s.data.toList=v:=(by rw[<-e2];exact HG.out);clear hyes HA HE HG HV;go_wp2;exact bodyPost_ret (v:=Di s.data.toList) (by simp[results,Tryz.results57,go_sem,Di,CF,e,e3]) rfl ⟨rfl,rfl⟩
theorem DG(a l:List UInt8):((⟨a.toArray⟩:ByteArray)++(⟨l.toArray⟩:ByteArray))=⟨(a++l).toArray⟩:=by
 apply ByteArray.ext;apply Array.ext';simp
theorem Ep(n:Nat):(Bt n).length<=n+1:=by
 induction n using Nat.strongRecOn with
 |_ n ih=>
  by_cases h:n<10
  ·rw[Cr h];simp
  ·rw[Er h,List.length_append];have:=ih (n/10) (by omega);simp;omega
theorem Kg(n:Nat)(w:World)(hn:n<=10000000000):
 Calls prog 20 #[.int .i64 n] w fun e w'=>e= .returned (.string ⟨(Bt n).toArray⟩)/\Below w w w':=by
 have hlen:=Ep n;go_enter func20,ntmps20
 go_wp2;go_loopw [0,3] (fun x s wr=>∃(k:Nat) (l:List UInt8),k<=n/\x= .int .i64 k/\s= .string ⟨l.toArray⟩/\Bt n=Bt k++l/\Below w w wr) (fun x _ _=>(intOf x).toNat)
 case atStart=>exact⟨n,[],Nat.le_refl _,rfl,rfl,by simp,Below.refl _ _⟩
 case round=>
  obtain⟨k,l,hk,rfl,rfl,hd,hB⟩:=hrel;have hl:l.length<=10000000001:=by
   have:=congrArg List.length hd;rw[List.length_append]at this;omega
  have HD:Hid (Bt n=Bt k++l):=hd;clear hd;by_cases h10:k<10
  ·have h10':¬(10:Int)<=(k:Int):=(by omega);obtain⟨b,hb⟩:∃b,b=UInt8.ofNat (48+(k:Int)).toNat:=⟨_,rfl⟩;have ob:=fun(w:World)=>one_byte w (48+(k:Int)) (by omega) (by omega);rw[<-hb]at ob;have HB:Hid (b=UInt8.ofNat (48+k)):=hb;clear hb;go_wp2;go_ret;refine⟨?_,hB.alloc hB.size _⟩;rw[Lc,HD.out,Cr h10,<-HB.out];rfl
  ·have h10':(10:Int)<=(k:Int):=(by omega);obtain⟨b,hb⟩:∃b,b=UInt8.ofNat (48+(k:Int)%10).toNat:=⟨_,rfl⟩;have ob:=fun(w:World)=>one_byte w (48+(k:Int)%10) (by omega) (by omega);rw[<-hb]at ob;have HB:Hid (b=UInt8.ofNat (48+k%10)):=hb;clear hb;go_wp2;go_roundw;case rel=>
    refine⟨k/10,b::l,by omega,by go_num,by rw[Lc],?_,hB.alloc hB.size _⟩;rw[HD.out,Er h10,<-HB.out,List.append_assoc];rfl
   case measure=>simp[intOf];omega
theorem Uy(b:Int)(c:AH)(w:World)(hc:c.at w):
 Calls prog 77 #[.agg #[.int .i64 b,c.val]] w fun e w'=>e= .returned (.bool (AO b c.n c.f c.g))/\Below w w w':=GC b c.a c.n c.k c.f c.g w hc.1 hc.2
theorem bV(c:AU)(w:World)(hc:c.at w):
 Calls prog 78 #[c.val] w fun e w'=>e= .returned (.bool (Cg c.n c.h))/\Below w w w':=NS c.a c.n c.k c.h w hc.1 hc.2
theorem SC(t:Ae)(w:World)(ht:t.at w):
 Calls prog 48 #[t.val] w fun e w'=>e= .returned (.bool (Bz t))/\Below w w w':=by
 have n1:No (.cells #[t.id,t.kind,t.up,t.b1,t.c1.val,.string t.data,t.jA.val,t.own.val,t.b2,t.c2.val] 51):=⟨⟩;have hb0:=(Below.refl _ w).alloc nr n1;have A0:=Ai.new w n1;have T0:=hid (ht.below hb0);unfold Ae.val;obtain⟨x0,x1,x2,x3,x4,x5,x6,x7,x8,x9⟩:=A0.jE;clear ht;go_enter func48,ntmps48
 go_wp2_with fail
 refine(Uy _ t.c1 _ T0.out.1).mono ?_;rintro e w1 ⟨rfl,hb1⟩;have A1:=A0.below hb1;have T1:=hid (T0.out.below hb1);have B1:=Ac hb0 hb1;clear x0 x1 x2 x3 x4 x5 x6 x7 x8 x9 A0 T0 hb0 hb1;obtain⟨x0,x1,x2,x3,x4,x5,x6,x7,x8,x9⟩:=A1.jE;cases t1:AO t.b1 t.c1.n t.c1.f t.c1.g with
 |false=>
  go_wp2;go_ret;exact⟨Ag (by simp[Bz,t1]),B1⟩
 |true=>
 go_wp2_with fail
 refine(Uy _ t.c2 _ T1.out.2.2.2.1).mono ?_;rintro e w2 ⟨rfl,hb2⟩;have A2:=A1.below hb2;have T2:=hid (T1.out.below hb2);have B2:=Ac B1 hb2;clear x0 x1 x2 x3 x4 x5 x6 x7 x8 x9 A1 T1 B1 hb2;obtain⟨x0,x1,x2,x3,x4,x5,x6,x7,x8,x9⟩:=A2.jE;cases t2:AO t.b2 t.c2.n t.c2.f t.c2.g with
 |false=>
  go_wp2;go_ret;exact⟨Ag (by simp[Bz,t2]),B2⟩
 |true=>
 go_wp2_with fail
 refine(bV t.own _ T2.out.2.2.1).mono ?_;rintro e w3 ⟨rfl,hb3⟩;have A3:=A2.below hb3;have T3:=hid (T2.out.below hb3);have B3:=Ac B2 hb3;clear x0 x1 x2 x3 x4 x5 x6 x7 x8 x9 A2 T2 B2 hb3;obtain⟨x0,x1,x2,x3,x4,x5,x6,x7,x8,x9⟩:=A3.jE;cases t3:Cg t.own.n t.own.h with
 |false=>
  go_wp2;go_ret;exact⟨Ag (by simp[Bz,t3]),B3⟩
 |true=>
 unfold AX.val at x6;have hn5:=T3.out.2.1.1;unfold maxLen at hn5;by_cases h8:8<t.jA.n
 ·have h8':(8:Int)<(t.jA.n:Int):=by omega
  go_wp2;go_ret;exact⟨Ag (by simp[Bz,OH h8]),B3⟩
 have h8':¬(8:Int)<(t.jA.n:Int):=by omega
 go_wp2_with fail
 refine(JU t.data _ _ T3.out.2.2.2.2).mono ?_;rintro e w4 ⟨rfl,rfl⟩;cases t4:Bp t.data 40 with
 |false=>
  go_wp2;go_ret;exact⟨Ag (by simp[Bz,t4]),B3⟩
 |true=>
 have OK:Hid (De t.jA.n t.jA.f=true->Bz t=Gk t):=hid (fun t5=>by simp[Bz,t1,t2,t3,t4,t5]);clear t1 t2 t3 t4;go_wp2;go_loop [3] (fun i=>∃k:Nat,k<=t.jA.n/\i= .int .i64 k/\Hid (∀j,j<k->Bp (t.jA.f j) 40=true)) (fun i=>t.jA.n-(intOf i).toNat)
 case atStart=>exact⟨0,Nat.zero_le _,rfl,hid (fun j hj=>by omega)⟩
 case round=>
  obtain⟨k,hk,rfl,HA⟩:=hrel;by_cases hlt:k<t.jA.n
  ·obtain⟨b,off,ea,hlt0,hcc⟩:=T3.out.2.1.2.1 (by omega);rw[ea]at x6;have g1:=hcc k hlt;have z:=T3.out.2.1.2.2 k hlt;have i1:(k:Int)<(t.jA.n:Int):=(by omega);clear hcc ea;go_wp2_with fail
   refine(JU _ _ _ z).mono ?_;rintro e w5 ⟨rfl,rfl⟩;clear g1;by_cases t5:Bp (t.jA.f k) 40=true
   ·have HA2:Hid (∀j,j<k+1->Bp (t.jA.f j) 40=true):=hid (fun j hj=>by
     by_cases e:j=k
     ·subst e;exact t5
     ·exact HA.out j (by omega))
    go_wp2;exact⟨⟨k+1,by omega,by go_num,HA2⟩,by simp[intOf];omega⟩
   ·have t':Bp (t.jA.f k) 40=false:=(by simpa using t5);clear t5;go_wp2;go_ret;exact⟨Ag (by simp[Bz,QR hlt t']),B3⟩
  ·have e:k=t.jA.n:=(by omega);have OK2:=hid (OK.out (by rw[PQ (by rw[<-e];exact HA.out)];simp;omega));clear e OK HA;unfold AU.val at x7;unfold AH.val at x9;have hn6:=T3.out.2.2.1.1;have hn7:=T3.out.2.2.2.1.1;unfold maxLen at hn6 hn7;go_wp2;all_goals
    go_ret;refine⟨Ag ?_,by assumption⟩;rw[OK2.out];clear OK2 h8' x0 x1 x2 x3 x4 x5 x6 x7 x8 x9;first
    |(simp_all[Gk,Fh,bW];done)
    |(simp_all[Gk,Fh];exact bW _)
end Go.Proofs.YtblapfnglojgjaaGreatDoor
