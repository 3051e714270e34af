import Derived.Lib.ConvBytes
import Derived.Maps.Own
import Derived.Maps.OwnSet
import Derived.Test.YteoihknaljgocaaGreatDoorZ0m
set_option maxRecDepth 100000
set_option maxHeartbeats 4000000
namespace Go.Proofs.YteoihknaljgocaaGreatDoor
open Go.RowKit Go.Deep
variable {w w':World}{a:Option Addr}{n:Nat}
def Jn(w:World)(a:Option Addr)(n:Nat)(f:Nat->ByteArray):Prop:=0<n->∃b off,a=some ⟨b,off,none⟩/\b<w.heap.size/\∀i,i<n->w.cell? ⟨b,off+i,none⟩=some (.string (f i))
theorem Jn.below{f:Nat->ByteArray}(h:Jn w a n f)(hb:Below w w w'):Jn w' a n f:=fun hn=>by
 obtain⟨b,off,e,hlt,hc⟩:=h hn;exact⟨b,off,e,Nat.lt_of_lt_of_le hlt hb.size,fun i hi=>(hb.cell (p:=⟨b,off+i,none⟩) hlt).trans (hc i hi)⟩
structure AH where
 a:Option Addr
 n:Nat
 k:Nat
 f:Nat->ByteArray
def AH.at(w:World)(c:AH):Prop:=c.n<=maxLen/\Jn w c.a c.n c.f/\∀i,i<c.n->(c.f i).size<=maxLen
def AH.val(c:AH):Value:= .slice c.a c.n c.k
theorem AH.at.below{c:AH}(h:c.at w)(hb:Below w w w'):c.at w':=⟨h.1,h.2.1.below hb,h.2.2⟩
def AH.small(c:AH):Prop:=c.n<=1048576/\∀i,i<c.n->(c.f i).size<=1048576
instance:Coe AH Value:=⟨fun c=>.slice c.a c.n c.k⟩
structure Ab where
 id:Int
 kind:Int
 up:Int
 b1:Int
 c1:Ar
 data:ByteArray
 jA:AH
 own:AJ
 b2:Int
 c2:Ar
instance:Coe Ab (Array Value):=⟨fun t=>#[t.id,t.kind,t.up,t.b1,.slice t.c1.a t.c1.n t.c1.k,.string t.data,.slice t.jA.a t.jA.n t.jA.k,.slice t.own.a t.own.n t.own.k,t.b2,.slice t.c2.a t.c2.n t.c2.k]⟩
def Ab.val(t:Ab):Value:= .agg #[t.id,t.kind,t.up,t.b1,t.c1.val,.string t.data,t.jA.val,t.own.val,t.b2,t.c2.val]
def Ab.at(w:World)(t:Ab):Prop:=t.c1.at w/\t.jA.at w/\t.own.at w/\t.c2.at w/\t.data.size<=maxLen
theorem Ab.at.below{t:Ab}(h:t.at w)(hb:Below w w w'):t.at w':=⟨h.1.below hb,h.2.1.below hb,h.2.2.1.below hb,h.2.2.2.1.below hb,h.2.2.2.2⟩
def Ab.small(t:Ab):Prop:=t.c1.n<=1048576/\t.data.size<=1048576/\t.jA.small/\t.own.n<=1048576/\t.c2.n<=1048576
structure C9(w:World)(b o:Nat)(t:Ab):Prop where
 c0:w.cell? ⟨b,o,none⟩=some (.int .i64 t.id)
 c1:w.cell? ⟨b,o+1,none⟩=some (.int .i64 t.kind)
 c2:w.cell? ⟨b,o+2,none⟩=some (.int .i64 t.up)
 c3:w.cell? ⟨b,o+3,none⟩=some (.int .i64 t.b1)
 c4:w.cell? ⟨b,o+4,none⟩=some t.c1.val
 c5:w.cell? ⟨b,o+5,none⟩=some (.string t.data)
 c6:w.cell? ⟨b,o+6,none⟩=some t.jA.val
 c7:w.cell? ⟨b,o+7,none⟩=some t.own.val
 c8:w.cell? ⟨b,o+8,none⟩=some (.int .i64 t.b2)
 c9:w.cell? ⟨b,o+9,none⟩=some t.c2.val
theorem C9.below{b o:Nat}{t:Ab}(h:C9 w b o t)(hl:b<w.heap.size)(hb:Below w w w'):C9 w' b o t:=
 ⟨(hb.cell (p:=⟨b,o,none⟩) hl).trans h.c0,(hb.cell (p:=⟨b,o+1,none⟩) hl).trans h.c1,(hb.cell (p:=⟨b,o+2,none⟩) hl).trans h.c2,(hb.cell (p:=⟨b,o+3,none⟩) hl).trans h.c3,(hb.cell (p:=⟨b,o+4,none⟩) hl).trans h.c4,(hb.cell (p:=⟨b,o+5,none⟩) hl).trans h.c5,(hb.cell (p:=⟨b,o+6,none⟩) hl).trans h.c6,(hb.cell (p:=⟨b,o+7,none⟩) hl).trans h.c7,(hb.cell (p:=⟨b,o+8,none⟩) hl).trans h.c8,(hb.cell (p:=⟨b,o+9,none⟩) hl).trans h.c9⟩
def Hz(w:World)(a:Option Addr)(n:Nat)(T:Nat->Ab):Prop:=
 0<n->∃b off,a=some ⟨b,off,none⟩/\b<w.heap.size/\∀i,i<n->C9 w b (off+i*10) (T i)/\(T i).at w
theorem Hz.below{T:Nat->Ab}(h:Hz w a n T)(hb:Below w w w'):Hz w' a n T:=fun hn=>by
 obtain⟨b,off,e,hlt,hc⟩:=h hn;exact⟨b,off,e,Nat.lt_of_lt_of_le hlt hb.size,fun i hi=>⟨(hc i hi).1.below hlt hb,(hc i hi).2.below hb⟩⟩
theorem Ag.jE{W:World}{P t:Nat}{x0 x1 x2 x3 x4 x5 x6 x7 x8 x9:Value}(h:Ag W P (.cells #[x0,x1,x2,x3,x4,x5,x6,x7,x8,x9] t)):W.cell? ⟨P,0,none⟩=some x0/\W.cell? ⟨P,1,none⟩=some x1/\W.cell? ⟨P,2,none⟩=some x2/\W.cell? ⟨P,3,none⟩=some x3/\W.cell? ⟨P,4,none⟩=some x4/\W.cell? ⟨P,5,none⟩=some x5/\W.cell? ⟨P,6,none⟩=some x6/\W.cell? ⟨P,7,none⟩=some x7/\W.cell? ⟨P,8,none⟩=some x8/\W.cell? ⟨P,9,none⟩=some x9:=by
 unfold Ag at h;simp[World.cell?,h]
def Ab.cells(t:Ab):Array Value:=#[t.id,t.kind,t.up,t.b1,t.c1.val,.string t.data,t.jA.val,t.own.val,t.b2,t.c2.val]
structure Aw where
 ta:Option Addr
 tn:Nat
 tk:Nat
 T:Nat->Ae
 oa:Option Addr
 on:Nat
 ok:Nat
 O:Nat->Ab
def Aw.val(k:Aw):Value:= .agg #[.slice k.ta k.tn k.tk,.slice k.oa k.on k.ok]
def Aw.at(w:World)(k:Aw):Prop:=k.tn<=maxLen/\k.on<=maxLen/\Iv w k.ta k.tn k.T/\Hz w k.oa k.on k.O
theorem Aw.at.below{k:Aw}(h:k.at w)(hb:Below w w w'):k.at w':=⟨h.1,h.2.1,h.2.2.1.below hb,h.2.2.2.below hb⟩
def Aw.small(k:Aw):Prop:=(k.tn<=1048576/\∀i,i<k.tn->(k.T i).small)/\(k.on<=1048576/\∀i,i<k.on->(k.O i).small)
open Go.Proofs.Tryz
variable {s:ByteArray}{most:Int}{b:UInt8}
def Fv(b:UInt8):Bool:=decide (32<=b.toNat)&&decide (b.toNat<=126)
def BI(s:ByteArray)(most:Int):Bool:=s.data.toList.all Fv&&decide ((s.size:Int)<=most)
theorem KU{k:Nat}(h:k<s.size)(hb:Fv s[k]=false):BI s most=false:=by
 have:s.data.toList.all Fv=false:=by
  rw[List.all_eq_false];exact⟨s[k],Array.getElem_mem_toList h,by simp[hb]⟩
 simp[BI,this]
theorem Qd(h:∀(k:Nat) (hk:k<s.size),Fv s[k]=true):BI s most=decide ((s.size:Int)<=most):=by
 have:s.data.toList.all Fv=true:=by
  rw[List.all_eq_true];intro b hb;obtain⟨k,hk,rfl⟩:=List.getElem_of_mem hb;have hk':k<s.size:=by simpa using hk
  have:=h k hk';have e:s[k]=s.data.toList[k]:=rfl;rw[e]at this;exact this
 simp[BI,this]
theorem Jz(h:(b.toNat:Int)<32):Fv b=false:=by
 have:¬32<=b.toNat:=by omega
 simp[Fv,this]
theorem Pu(h:126<(b.toNat:Int)):Fv b=false:=by
 have:¬b.toNat<=126:=by omega
 simp[Fv,this]
theorem NI(h1:32<=(b.toNat:Int))(h2:(b.toNat:Int)<=126):Fv b=true:=by
 have e1:32<=b.toNat:=by omega
 have e2:b.toNat<=126:=by omega
 simp[Fv,e1,e2]
theorem Jm(s:ByteArray)(most:Int)(w:World)(hn:s.size<=maxLen):
 Calls prog 97 #[.string s,.int .i64 most] w fun e w'=>e= .returned (.bool (BI s most))/\w'=w:=by
 unfold maxLen at hn;go_enter func97,ntmps97
 go_wp2;go_loop [5] (fun i=>∃k:Nat,k<=s.size/\i= .int .i64 k/\(∀(j:Nat) (hj:j<s.size),j<k->Fv s[j]=true)) (fun i=>s.size-(intOf i).toNat)
 case atStart=>exact⟨0,Nat.zero_le _,rfl,fun j _ hj=>by omega⟩
 case round=>
  obtain⟨k,hk,rfl,hall⟩:=hrel;have HA:Hid (∀(j:Nat) (hj:j<s.size),j<k->Fv s[j]=true):=hall;clear hall;by_cases hlt:k<s.size
  ·have hki:(k:Int)<(s.size:Int):=(by omega);go_wp2
   ·go_ret;rename_i h1 h2 _;refine⟨Ah (KU hlt ?_).symm,rfl⟩;rcases h2 with h2|h2
    ·exact Jz h2
    ·exact Pu h2
   ·rename_i h1 h2;go_round;case rel=>
     refine⟨k+1,by omega,by go_num,fun j hj hjk=>?_⟩;by_cases e:j=k
     ·subst e;exact NI h2.1 h2.2
     ·exact HA.out j hj (by omega)
    case measure=>simp[intOf];omega
   ·go_ret;rename_i h1;exact⟨Ah (KU hlt (Jz h1)).symm,rfl⟩
  ·have hki:¬(k:Int)<(s.size:Int):=(by omega);go_wp2;go_ret;exact⟨Ah (Qd (fun j hj=>HA j hj (by omega))).symm,rfl⟩
theorem bytesWorld_below(w:World)(e:TypeId)(s:ByteArray):Below w w (Lib.bytesWorld w e s):=
 ⟨rfl,rfl,rfl,by rw[Lib.bytesWorld_size];omega,fun k hk=>Lib.bytesWorld_at_old w e s k hk⟩
theorem J5(s:ByteArray)(w:World)(hn:s.size<=maxLen):
 Calls prog 84 #[.string s] w fun e w'=>e= .returned (.bool (BI s 40))/\Below w w w':=by
 unfold maxLen at hn;by_cases h40:40<s.size
 ·have h40':(40:Int)<(s.size:Int):=by omega
  go_enter func84,ntmps84
  go_wp2;go_ret;have:¬(s.size:Int)<=40:=by omega
  exact⟨Ah (by simp[BI,this]),Below.refl _ _⟩
 ·have h40':(s.size:Int)<=40:=by omega
  have kc:=fun(w:World) (s:ByteArray)=>Lib.run_convert_string_bytes (P:=prog) w 9 22 5 s underlying9 underlying22 underlying5;go_enter func84,ntmps84
  go_wp2_with fail
  have hB:=bytesWorld_below w 5 s;have hcell:∀(j:Nat) (hj:j<s.size),(Lib.bytesWorld w 5 s).cell? ⟨w,j,none⟩=some (.int .u8 (s[j].toNat:Int)):=fun j hj=>by
   rw[Lib.bytesWorld_cell w 5 s j hj];have e:s.data.toList.getD j 0=s[j]:=by
    have hj':j<s.data.toList.length:=(by simpa using hj);rw[List.getD_eq_getElem?_getD,List.getElem?_eq_getElem hj'];rfl
   rw[e]
  generalize Lib.bytesWorld w 5 s=W at *;generalize grownCap w s.size 0 5=cp at *;go_loop [11] (fun i=>∃k:Nat,k<=s.size/\i= .int .i64 k/\(∀(j:Nat) (hj:j<s.size),j<k->Fv s[j]=true)) (fun i=>s.size-(intOf i).toNat)
  case atStart=>exact⟨0,Nat.zero_le _,rfl,fun j _ hj=>by omega⟩
  case round=>
   obtain⟨k,hk,rfl,hall⟩:=hrel;have HA:Hid (∀(j:Nat) (hj:j<s.size),j<k->Fv s[j]=true):=hall;clear hall;by_cases hlt:k<s.size
   ·have hki:(k:Int)<(s.size:Int):=(by omega);have hc:=hcell k hlt;clear hcell;go_wp2
    ·go_ret;rename_i h1 h2 _;refine⟨Ah (KU hlt ?_).symm,hB⟩;rcases h2 with h2|h2
     ·exact Jz h2
     ·exact Pu h2
    ·rename_i h1 h2;go_round;case rel=>
      refine⟨k+1,by omega,by go_num,fun j hj hjk=>?_⟩;by_cases e:j=k
      ·subst e;exact NI h2.1 h2.2
      ·exact HA.out j hj (by omega)
     case measure=>simp[intOf];omega
    ·go_ret;rename_i h1;exact⟨Ah (KU hlt (Jz h1)).symm,hB⟩
   ·have hki:¬(k:Int)<(s.size:Int):=(by omega);clear hcell;go_wp2;go_ret;exact⟨Ah (by rw[Qd (fun j hj=>HA.out j hj (by omega))];simpa using h40'),hB⟩
def Dz(base:Int)(n:Nat):Bool:=(base==0)&&(n==0)
def aO(kind:Int):Bool:=kind==2||kind==3||kind==4||kind==5||kind==6||kind==7||kind==8||kind==9||kind==10||kind==11||kind==13||kind==15
def aQ(kind:Int):Bool:=kind==8
def Sa(kind:Int):Bool:=kind==5||kind==14
def Qc(kind:Int):Bool:=kind==6||kind==9
def LV(kind:Int):Bool:=kind==2||kind==3||kind==4||kind==5||kind==12
def Jl(kind:Int):Bool:=kind==5
def aM(kind:Int):Bool:=kind==1||kind==2||kind==3||kind==4||kind==5||kind==6||kind==7||kind==8||kind==9||kind==10||kind==11||kind==12||kind==13||kind==14||kind==15
def Mt(n:Int)(used:Bool):Bool:=if used then Ei n 1 9030 else n==0
def M8(kind cat:Int)(used:Bool):Bool:=if cat==0 then kind != 14 else used&&Ei cat 1 9999
theorem Ka(base:Int)(a:Option Addr)(n cap:Nat)(w:World)(hn:n<=maxLen):
 Calls prog 83 #[.agg #[.int .i64 base,.slice a n cap]] w fun e w'=>e= .returned (.bool (Dz base n))/\Below w w w':=by
 unfold maxLen at hn;have hb0:=Bf w (.cells #[.int .i64 base,.slice a n cap] 30);cases t:(base==0)with
 |true=>
  go_enter func83,ntmps83
  go_wp2;go_ret;refine⟨Ah ?_,hb0⟩;unfold Dz;rw[t,Bool.true_and];by_cases e:n=0
  ·subst e;rfl
  ·have e1:(n==0)=false:=(by simpa using e);rw[e1];simp;omega
 |false=>
  go_enter func83,ntmps83
  go_wp2;go_ret;exact⟨Ah (by simp[Dz,t]),hb0⟩
def Ey(n:Nat)(f:Nat->ByteArray):Bool:=decide (n<=8)&&(List.range n).all (fun i=>BI (f i) 40)
theorem Nc{n:Nat}{f:Nat->ByteArray}(e:8<n):Ey n f=false:=by
 have:decide (n<=8)=false:=by simp;omega
 simp[Ey,this]
theorem Pw{n k:Nat}{f:Nat->ByteArray}(hk:k<n)(e:BI (f k) 40=false):Ey n f=false:=by
 have:(List.range n).all (fun i=>BI (f i) 40)=false:=by
  rw[List.all_eq_false];exact⟨k,List.mem_range.2 hk,by simp[e]⟩
 simp[Ey,this]
theorem Og{n:Nat}{f:Nat->ByteArray}(e:∀i,i<n->BI (f i) 40=true):Ey n f=decide (n<=8):=by
 have:(List.range n).all (fun i=>BI (f i) 40)=true:=by
  rw[List.all_eq_true];intro i hi;exact e i (List.mem_range.1 hi)
 simp[Ey,this]
theorem Su(a:Option Addr)(n cap:Nat)(f:Nat->ByteArray)(w:World)(hn:n<=maxLen)(hc:Jn w a n f)(hz:∀i,i<n->(f i).size<=maxLen):
 Calls prog 139 #[.slice a n cap] w fun e w'=>e= .returned (.bool (Ey n f))/\Below w w w':=by
 unfold maxLen at hn;have HC:=hid hc;have HZ:=hid hz;clear hc hz;by_cases h8:8<n
 ·have h8':(8:Int)<(n:Int):=by omega
  go_enter func139,ntmps139
  go_wp2;go_ret;exact⟨Ah (Nc h8).symm,Below.refl _ _⟩
 ·have h8':¬(8:Int)<(n:Int):=by omega
  go_enter func139,ntmps139
  go_wp2;go_loopw [10] (fun i wr=>∃k:Nat,k<=n/\i= .int .i64 k/\Hid (∀j,j<k->BI (f j) 40=true)/\Below w w wr) (fun i _=>n-(intOf i).toNat)
  case atStart=>exact⟨0,Nat.zero_le _,rfl,hid (fun j hj=>by omega),Below.refl _ _⟩
  case round=>
   obtain⟨k,hk,rfl,HA,hB⟩:=hrel;by_cases hlt:k<n
   ·obtain⟨b,off,rfl,hlt0,hcc⟩:=HC.out.below hB (by omega);have g1:=hcc k hlt;have z:=HZ.out k hlt;have i1:(k:Int)<(n:Int):=(by omega);clear hcc;go_wp2_with fail
    refine(J5 _ _ z).mono ?_;rintro e w1 ⟨rfl,hb1⟩;have B1:=Af hB hb1;clear g1;by_cases t:BI (f k) 40=true
    ·have HA2:Hid (∀j,j<k+1->BI (f j) 40=true):=hid (fun j hj=>by
      by_cases e:j=k
      ·subst e;exact t
      ·exact HA.out j (by omega))
     go_wp2;exact⟨⟨k+1,by omega,by go_num,HA2,B1⟩,by simp[intOf];omega⟩
    ·have t':BI (f k) 40=false:=(by simpa using t);clear t;go_wp2;go_ret;exact⟨Ah (Pw hlt t').symm,B1⟩
   ·go_wp2;go_ret;have e:k=n:=(by omega);subst e;exact⟨Ah (by rw[Og HA.out];simp;omega),hB⟩
def Hl(t:Ab):Bool:=
 if t.kind=1 then t.jA.n==0&&(t.own.n==0&&Dz t.b2 t.c2.n)
 else if t.kind=2 then t.data.toList.isEmpty&&(t.own.n==0&&Dz t.b2 t.c2.n)
 else if t.kind=3 then t.data.toList.isEmpty&&t.jA.n==0&&(t.own.n==0&&Dz t.b2 t.c2.n)
 else if t.kind=4 then t.data.toList.isEmpty&&t.jA.n==0
 else false
def CS(t:Ab):Bool:=Bb t.b1 t.c1.n t.c1.f t.c1.g&&Bb t.b2 t.c2.n t.c2.f t.c2.g&&Ci t.own.n t.own.h&&BI t.data 40&&Ey t.jA.n t.jA.f&&Hl t
theorem ZF(n:Nat):((n:Int)==0)=(n==0):=by
 by_cases e:n=0
 ·subst e;rfl
 ·have e1:(n==0)=false:=by simpa using e
  rw[e1];simp;omega
theorem UM(b:Int)(c:Ar)(w:World)(hc:c.at w):
 Calls prog 31 #[.agg #[.int .i64 b,c.val]] w fun e w'=>e= .returned (.bool (Bb b c.n c.f c.g))/\Below w w w':=Ec b c.a c.n c.k c.f c.g w hc.1 hc.2
theorem YX(c:AJ)(w:World)(hc:c.at w):
 Calls prog 32 #[c.val] w fun e w'=>e= .returned (.bool (Ci c.n c.h))/\w'=w:=Iu c.a c.n c.k c.h w hc.1 hc.2
theorem Yw(c:AH)(w:World)(hc:c.at w):
 Calls prog 139 #[c.val] w fun e w'=>e= .returned (.bool (Ey c.n c.f))/\Below w w w':=Su c.a c.n c.k c.f w hc.1 hc.2.1 hc.2.2
theorem ZX(b:Int)(c:Ar)(w:World)(hc:c.at w):
 Calls prog 83 #[.agg #[.int .i64 b,c.val]] w fun e w'=>e= .returned (.bool (Dz b c.n))/\Below w w w':=Ka b c.a c.n c.k w hc.1
theorem QF(t:Ab)(w:World)(ht:t.at w):
 Calls prog 112 #[t.val] w fun e w'=>e= .returned (.bool (CS t))/\Below w w w':=by
 have n1:No (.cells #[t.id,t.kind,t.up,t.b1,t.c1.val,.string t.data,t.jA.val,t.own.val,t.b2,t.c2.val] 44):=⟨⟩;have hb0:=(Below.refl _ w).alloc nr n1;have A0:=Ag.new w n1;have T0:=hid (ht.below hb0);unfold Ab.val;obtain⟨x0,x1,x2,x3,x4,x5,x6,x7,x8,x9⟩:=A0.jE;clear ht;go_enter func112,ntmps112
 go_wp2_with fail
 refine(UM _ t.c1 _ T0.out.1).mono ?_;rintro e w1 ⟨rfl,hb1⟩;have A1:=A0.below hb1;have T1:=hid (T0.out.below hb1);have B1:=Af hb0 hb1;clear x0 x1 x2 x3 x4 x5 x6 x7 x8 x9 A0 T0 hb0 hb1;obtain⟨x0,x1,x2,x3,x4,x5,x6,x7,x8,x9⟩:=A1.jE;cases t1:Bb t.b1 t.c1.n t.c1.f t.c1.g with
 |false=>
  go_wp2;go_ret;exact⟨Ah (by simp[CS,t1]),B1⟩
 |true=>
 go_wp2_with fail
 refine(UM _ t.c2 _ T1.out.2.2.2.1).mono ?_;rintro e w2 ⟨rfl,hb2⟩;have A2:=A1.below hb2;have T2:=hid (T1.out.below hb2);have B2:=Af B1 hb2;clear x0 x1 x2 x3 x4 x5 x6 x7 x8 x9 A1 T1 B1 hb2;obtain⟨x0,x1,x2,x3,x4,x5,x6,x7,x8,x9⟩:=A2.jE;cases t2:Bb t.b2 t.c2.n t.c2.f t.c2.g with
 |false=>
  go_wp2;go_ret;exact⟨Ah (by simp[CS,t2]),B2⟩
 |true=>
 go_wp2_with fail
 refine(YX t.own _ T2.out.2.2.1).mono ?_;rintro e w3 ⟨rfl,rfl⟩;cases t3:Ci t.own.n t.own.h with
 |false=>
  go_wp2;go_ret;exact⟨Ah (by simp[CS,t3]),B2⟩
 |true=>
 go_wp2_with fail
 refine(J5 t.data _ T2.out.2.2.2.2).mono ?_;rintro e w4 ⟨rfl,hb4⟩;have A4:=A2.below hb4;have T4:=hid (T2.out.below hb4);have B4:=Af B2 hb4;clear x0 x1 x2 x3 x4 x5 x6 x7 x8 x9 A2 T2 B2 hb4;obtain⟨x0,x1,x2,x3,x4,x5,x6,x7,x8,x9⟩:=A4.jE;cases t4:BI t.data 40 with
 |false=>
  go_wp2;go_ret;exact⟨Ah (by simp[CS,t4]),B4⟩
 |true=>
 go_wp2_with fail
 refine(Yw t.jA _ T4.out.2.1).mono ?_;rintro e w5 ⟨rfl,hb5⟩;have A5:=A4.below hb5;have T5:=hid (T4.out.below hb5);have B5:=Af B4 hb5;clear x0 x1 x2 x3 x4 x5 x6 x7 x8 x9 A4 T4 B4 hb5;obtain⟨x0,x1,x2,x3,x4,x5,x6,x7,x8,x9⟩:=A5.jE;cases t5:Ey t.jA.n t.jA.f with
 |false=>
  go_wp2;go_ret;exact⟨Ah (by simp[CS,t5]),B5⟩
 |true=>
 have OK:Hid (CS t=Hl t):=hid (by simp[CS,t1,t2,t3,t4,t5]);clear t1 t2 t3 t4 t5;unfold AH.val at x6;go_wp2_with fail
 have hn5:=T5.out.2.1.1;unfold maxLen at hn5;go_quiet(fail)
 unfold AJ.val at x7;have hn6:=T5.out.2.2.1.1;unfold maxLen at hn6;have Z:=hid (ZX t.b2 t.c2 _ (T5.out.below (below_drewN (Below.refl _ w5) nq)).2.2.2.1);have B6:=below_drewN B5 nq;go_wp2_with(go_at_call 83;refine Z.out.mono ?_;rintro e w6 ⟨rfl,hb6⟩;have x1':=(hb6.cell (p:=⟨w,1,none⟩) A5.lt).trans x1;have B7:=Af B6 hb6)
 all_goals
  go_ret;refine⟨Ah ?_,by assumption⟩;rw[OK.out];first
  |(simp_all[Hl];done)
  |(simp_all[Hl];exact ZF _)
def Bg(ids:Nat->Int)(n:Nat)(x:Int):Option Nat:=(List.range n).find? (fun j=>ids j==x)
def Jw(ids ups:Nat->Int)(n i:Nat):Option Nat:=if i=0 then none else Bg ids n (ups i)
def Bq(ids ups:Nat->Int)(n:Nat):Nat->Nat->Option Nat
 |0,i=>some i
 |m+1,i=>(Jw ids ups n i).bind (Bq ids ups n m)
def Dy(ids ups:Nat->Int)(n i:Nat):List Nat:=(List.range n).filter (fun j=>ups j==ids i)
def FG(ids ups:Nat->Int)(n:Nat):Nat->Nat->List Nat
 |0,_=>[]
 |f+1,i=>i::(Dy ids ups n i).flatMap (FG ids ups n f)
def Du(ids:Nat->Int)(n:Nat):Prop:=∀i j,i<j->j<n->ids i<ids j
theorem Av{ids:Nat->Int}{n:Nat}{x:Int}{j:Nat}(h:Bg ids n x=some j):j<n/\ids j=x:=by
 unfold Bg at h;exact⟨List.mem_range.1 (List.mem_of_find?_eq_some h),by simpa using List.find?_some h⟩
theorem GQ{ids:Nat->Int}{n:Nat}{x:Int}(h:Bg ids n x=none):∀j,j<n->ids j≠x:=by
 unfold Bg at h;rw[List.find?_eq_none]at h;intro j hj e;have:=h j (List.mem_range.2 hj);simp[e]at this
theorem Du.inj{ids:Nat->Int}{n:Nat}(h:Du ids n){i j:Nat}(hi:i<n)(hj:j<n)(e:ids i=ids j):i=j:=by
 rcases Nat.lt_trichotomy i j with h1|h1|h1
 ·have:=h i j h1 hj;omega
 ·exact h1
 ·have:=h j i h1 hi;omega
theorem Dt{ids:Nat->Int}{n:Nat}(h:Du ids n){j:Nat}(hj:j<n):Bg ids n (ids j)=some j:=by
 cases e:Bg ids n (ids j)with
 |none=>exact absurd rfl (GQ e j hj)
 |some k=>
  obtain⟨h1,h2⟩:=Av e;rw[h.inj h1 hj h2]
section
variable {ids ups:Nat->Int}{n:Nat}
theorem Fc(a b i:Nat):Bq ids ups n (a+b) i=(Bq ids ups n a i).bind (Bq ids ups n b):=by
 induction a generalizing i with
 |zero=>simp[Bq]
 |succ a ih=>
  rw[Nat.succ_add];simp only[Bq];cases Jw ids ups n i with
  |none=>rfl
  |some k=>simp only[Option.bind_some];exact ih k
theorem PV(i:Nat):Bq ids ups n 1 i=Jw ids ups n i:=by
 simp only[Bq];cases Jw ids ups n i<;>rfl
theorem DW(m i:Nat):Bq ids ups n (m+1) i=(Bq ids ups n m i).bind (Jw ids ups n):=by
 rw[Fc];congr 1;funext j;exact PV j
theorem Ny{i j:Nat}(h:Jw ids ups n i=some j):j<n:=by
 unfold Jw at h;split at h
 ·cases h
 ·exact(Av h).1
theorem Rb{m i j:Nat}(hi:i<n)(h:Bq ids ups n m i=some j):j<n:=by
 cases m with
 |zero=>simp only[Bq,Option.some.injEq]at h;omega
 |succ m=>
  rw[DW]at h;cases e:Bq ids ups n m i with
  |none=>simp[e]at h
  |some k=>simp only[e,Option.bind_some]at h;exact Ny h
def Hh(ids ups:Nat->Int)(n i:Nat):Prop:=∀p,Bq ids ups n (p+1) i≠some i
theorem Ga:Hh ids ups n 0:=fun p h=>by simp[Bq,Jw]at h
theorem Ww{i k:Nat}(h:Hh ids ups n i)(hk:Jw ids ups n k=some i):Hh ids ups n k:=fun p e=>by
 have e1:Bq ids ups n p i=some k:=by
  have:=e;simp only[Bq,hk,Option.bind_some]at this;exact this
 exact h p (by rw[DW,e1];exact hk)
theorem M3{i k m:Nat}(h:Hh ids ups n i)(hk:Bq ids ups n m k=some i):Hh ids ups n k:=fun p e=>by
 have e2:Bq ids ups n (p+1+m) k=some i:=by rw[Fc,e];exact hk
 rw[Nat.add_comm,Fc,hk]at e2;exact h p e2
theorem IE(n:Nat)(l:List Nat)(h:∀x∈l,x<n):l.length=((List.range n).map (fun j=>l.count j)).sum:=by
 induction l with
 |nil=>
  have:∀L:List Nat,(L.map (fun j=>([]:List Nat).count j)).sum=0:=by
   intro L;induction L with
   |nil=>rfl
   |cons a L ih=>rw[List.map_cons,List.sum_cons,ih];rfl
  rw[this];rfl
 |cons a l ih=>
  have h1:=ih (fun x hx=>h x (List.mem_cons_of_mem _ hx));have ha:a<n:=h a List.mem_cons_self;have key:∀N,(((List.range N).map (fun j=>(a::l).count j)).sum)=((List.range N).map (fun j=>l.count j)).sum+(if a<N then 1 else 0):=by
   intro N;induction N with
   |zero=>simp
   |succ N ihN=>
    rw[List.range_succ,List.map_append,List.sum_append,List.map_append,List.sum_append,ihN];simp only[List.map_cons,List.map_nil,List.sum_cons,List.sum_nil,List.count_cons];by_cases e:a=N
    ·subst e;simp;omega
    ·have e1:(a==N)=false:=(by simpa using e);simp only[e1];by_cases e2:a<N
     ·have:a<N+1:=(by omega);simp[e2,this];omega
     ·have:¬a<N+1:=(by omega);simp[e2,this]
  rw[key,if_pos ha,List.length_cons,h1]
theorem Ns(n:Nat)(c:Nat->Nat)(h:∀j,c j<=1):((List.range n).map c).sum<=n:=by
 induction n with
 |zero=>simp
 |succ n ih=>rw[List.range_succ,List.map_append,List.sum_append];have:=h n;simp;omega
theorem Xr(n:Nat)(c:Nat->Nat)(h:∀j,c j<=1)(e:((List.range n).map c).sum=n):∀j,j<n->c j=1:=by
 induction n with
 |zero=>intro j hj;omega
 |succ n ih=>
  rw[List.range_succ,List.map_append,List.sum_append]at e;simp at e;have h1:=Ns n c h;have h2:=h n;intro j hj;by_cases e1:j=n
  ·subst e1;omega
  ·exact ih (by omega) j (by omega)
theorem Zk(n:Nat)(c:Nat->Nat)(h:∀j,j<n->c j=1):((List.range n).map c).sum=n:=by
 induction n with
 |zero=>simp
 |succ n ih=>rw[List.range_succ,List.map_append,List.sum_append,ih (fun j hj=>h j (by omega))];simp[h n (by omega)]
theorem GN{l:List Nat}(hl:l.Nodup)(h:∀x∈l,x<n):l.length<=n:=by
 rw[IE n l h];exact Ns n _ (fun j=>List.nodup_iff_count.1 hl j)
theorem Uh{l:List Nat}(hl:l.Nodup)(h:∀x∈l,x<n):l.length=n↔∀j,j<n->j∈l:=by
 constructor
 ·intro e j hj;rw[IE n l h]at e;have:=Xr n _ (fun j=>List.nodup_iff_count.1 hl j) e j hj;exact List.count_pos_iff.1 (by omega)
 ·intro e;rw[IE n l h];refine Zk n _ (fun j hj=>?_);have h1:=List.nodup_iff_count.1 hl j;have h2:=List.count_pos_iff.2 (e j hj);omega
theorem Nz{i j m:Nat}(hc:Hh ids ups n i)(hj:j<n)(h:Bq ids ups n m j=some i):m<n:=by
 have each:∀q,q<=m->∃x,Bq ids ups n q j=some x:=fun q hq=>by
  have e:m=q+(m-q):=by omega
  rw[e,Fc]at h;cases e1:Bq ids ups n q j with
  |none=>simp[e1]at h
  |some x=>exact⟨x,rfl⟩
 have hl:((List.range (m+1)).map (fun q=>(Bq ids ups n q j).getD 0)).Nodup:=by
  rw[List.Nodup,List.pairwise_map];refine List.Pairwise.imp_of_mem ?_ (List.pairwise_lt_range (n:=m+1));intro a b ha hb hab e;have ha':=List.mem_range.1 ha;have hb':=List.mem_range.1 hb;obtain⟨x,hx⟩:=each a (by omega);obtain⟨y,hy⟩:=each b (by omega);simp only[hx,hy,Option.getD_some]at e;subst e;have e1:b=a+(b-a-1+1):=by omega
  rw[e1,Fc,hx,Option.bind_some]at hy;have e2:m=a+(m-a):=by omega
  rw[e2,Fc,hx,Option.bind_some]at h;exact M3 hc h _ hy
 have:=GN (n:=n) hl (by
  intro x hx;obtain⟨q,hq,rfl⟩:=List.mem_map.1 hx;have hq':=List.mem_range.1 hq;obtain⟨y,hy⟩:=each q (by omega);rw[hy];exact Rb hj hy)
 simp at this;omega
theorem FV(hr:Du ids n)(h0:∀j,j<n->ids j≠ups 0){i k:Nat}(hi:i<n):k∈Dy ids ups n i↔k<n/\Jw ids ups n k=some i:=by
 unfold Dy;rw[List.mem_filter,List.mem_range];constructor
 ·rintro⟨h1,h2⟩;refine⟨h1,?_⟩;have h2':ups k=ids i:=by simpa using h2
  unfold Jw;split
  ·rename_i e;subst e;exact absurd h2'.symm (h0 i hi)
  ·rw[h2'];exact Dt hr hi
 ·rintro⟨h1,h2⟩;refine⟨h1,?_⟩;unfold Jw at h2;split at h2
  ·cases h2
  ·simp[(Av h2).2]
theorem Ev(hr:Du ids n)(h0:∀j,j<n->ids j≠ups 0){f i j:Nat}(hi:i<n):j∈FG ids ups n f i↔j<n/\∃m,m<f/\Bq ids ups n m j=some i:=by
 induction f generalizing i with
 |zero=>simp[FG]
 |succ f ih=>
  simp only[FG,List.mem_cons,List.mem_flatMap];constructor
  ·rintro(rfl|⟨k,hk,hj⟩)
   ·exact⟨hi,0,by omega,rfl⟩
   ·obtain⟨k1,k2⟩:=(FV hr h0 hi).1 hk;obtain⟨hj',m,hm,e⟩:=(ih k1).1 hj;exact⟨hj',m+1,by omega,by rw[DW,e];exact k2⟩
  ·rintro⟨hj,m,hm,e⟩;cases m with
   |zero=>simp only[Bq,Option.some.injEq]at e;exact .inl e
   |succ m=>
    rw[DW]at e;cases e1:Bq ids ups n m j with
    |none=>simp[e1]at e
    |some k=>
     simp only[e1,Option.bind_some]at e;have hk:=Rb hj e1;exact .inr ⟨k,(FV hr h0 hi).2 ⟨hk,e⟩,(ih hk).2 ⟨hj,m,by omega,e1⟩⟩
theorem Is(hr:Du ids n)(h0:∀j,j<n->ids j≠ups 0){f i:Nat}(hi:i<n)(hc:Hh ids ups n i):(FG ids ups n f i).Nodup:=by
 induction f generalizing i with
 |zero=>simp[FG]
 |succ f ih=>
  simp only[FG,List.nodup_cons,List.mem_flatMap];refine⟨?_,?_⟩
  ·rintro⟨k,hk,hj⟩;obtain⟨k1,k2⟩:=(FV hr h0 hi).1 hk;obtain⟨_,m,_,e⟩:=(Ev hr h0 k1).1 hj;exact hc m (by rw[DW,e];exact k2)
  ·rw[List.Nodup,List.pairwise_flatMap];refine⟨fun k hk=>?_,?_⟩
   ·obtain⟨k1,k2⟩:=(FV hr h0 hi).1 hk;exact ih k1 (Ww hc k2)
   ·have hn:(Dy ids ups n i).Nodup:=List.Nodup.sublist List.filter_sublist List.nodup_range;refine List.Pairwise.imp_of_mem ?_ hn;intro a b ha hb hab x hx y hy exy;subst exy;obtain⟨a1,a2⟩:=(FV hr h0 hi).1 ha;obtain⟨b1,b2⟩:=(FV hr h0 hi).1 hb;obtain⟨_,p,_,ep⟩:=(Ev hr h0 a1).1 hx;obtain⟨_,q,_,eq⟩:=(Ev hr h0 b1).1 hy;have far:∀{a b p q:Nat},Jw ids ups n a=some i->Jw ids ups n b=some i->Bq ids ups n p x=some a->Bq ids ups n q x=some b->p<q->False:=by
     intro a b p q a2 b2 ep eq hpq;have e1:q=p+(q-p-1+1):=(by omega);rw[e1,Fc,ep,Option.bind_some]at eq;simp only[Bq,a2,Option.bind_some]at eq;exact hc (q-p-1) (by rw[DW,eq];exact b2)
    rcases Nat.lt_trichotomy p q with h|h|h
    ·exact far a2 b2 ep eq h
    ·subst h;rw[ep]at eq;exact hab (by simpa using eq)
    ·exact far b2 a2 eq ep h
def Fh(ids ups:Nat->Int)(n:Nat):Bool:=(List.range n).all fun i=>(List.range n).any fun m=>Bq ids ups n m i==some 0
theorem Gd:Fh ids ups n=true↔∀i,i<n->∃m,m<n/\Bq ids ups n m i=some 0:=by
 simp only[Fh,List.all_eq_true,List.any_eq_true,List.mem_range,beq_iff_eq]
theorem WX(hr:Du ids n)(h0:∀j,j<n->ids j≠ups 0)(hn:0<n):((FG ids ups n n 0).length=n)↔Fh ids ups n=true:=by
 rw[Uh (Is hr h0 hn Ga) (fun x hx=>((Ev hr h0 hn).1 hx).1),Gd];constructor
 ·intro h i hi;exact((Ev hr h0 hn).1 (h i hi)).2
 ·intro h i hi;exact(Ev hr h0 hn).2 ⟨hi,h i hi⟩
theorem Oe{i m:Nat}(h:Bq ids ups n m i=some 0):Hh ids ups n i:=M3 Ga h
end
variable {n k:Nat}
def Ds(t:Ae):Bool:=DO t.id t.made t.b1 t.c1.n t.c1.f t.c1.g t.b2 t.c2.n t.c2.f t.c2.g t.own.n t.own.h
theorem Vh(t:Ae)(w:World)(ht:t.at w):
 Calls prog 72 #[t.val] w fun e w'=>e= .returned (.bool (Ds t))/\Below w w w':=Ja _ _ _ _ _ _ _ _ _ _ _ _ _ _ _ _ _ _ w ht.1.1 ht.2.1.1 ht.2.2.1 ht.1.2 ht.2.1.2 ht.2.2.2
def Et(T:Nat->Ae)(i:Nat):Bool:=Ds (T i)&&(i==0||decide ((T (i-1)).id<(T i).id))
def By(n:Nat)(T:Nat->Ae):Bool:=decide (1<=n)&&decide (n<=9)&&(List.range n).all (Et T)
def FY(O:Nat->Ab)(i:Nat):Bool:=CS (O i)&&(if i=0 then decide (0<(O 0).id)else decide ((O (i-1)).id<(O i).id))
def FJ(t:Ab):Bool:=t.id==1&&t.kind==3&&t.up==0
def Cn(n:Nat)(O:Nat->Ab):Bool:=decide (1<=n)&&decide (n<=271)&&(List.range n).all (FY O)&&FJ (O 0)
theorem He{p:Nat->Bool}(hk:k<n)(e:p k=false):(List.range n).all p=false:=by
 rw[List.all_eq_false];exact⟨k,List.mem_range.2 hk,by simp[e]⟩
theorem Er{p:Nat->Bool}(e:∀i,i<n->p i=true):(List.range n).all p=true:=by
 rw[List.all_eq_true];intro i hi;exact e i (List.mem_range.1 hi)
theorem Gm{p:Nat->Bool}(e:(List.range n).all p=true):∀i,i<n->p i=true:=fun i hi=>List.all_eq_true.1 e i (List.mem_range.2 hi)
theorem KR{t:Ae}(h:Ds t=true):1<=t.id/\t.id<=9:=by
 unfold Ds DO at h;simp only[Bool.and_eq_true]at h;exact Ep.1 (by simp_all)
theorem WK{T:Nat->Ae}(h:Ds (T k)=true)(e:(T k).id<=lastOf (fun i=>(T i).id) k):Et T k=false:=by
 have h1:=KR h;by_cases e0:k=0
 ·subst e0;simp[lastOf]at e;omega
 ·simp[lastOf,e0]at e;have:decide ((T (k-1)).id<(T k).id)=false:=by simp;omega
  simp[Et,e0,this]
theorem VS{T:Nat->Ae}(h:Ds (T k)=true)(e:¬(T k).id<=lastOf (fun i=>(T i).id) k):Et T k=true:=by
 by_cases e0:k=0
 ·subst e0;simp[Et,h]
 ·simp[lastOf,e0]at e;simp[Et,h,e]
theorem WZ{O:Nat->Ab}(e:(O k).id<=lastOf (fun i=>(O i).id) k):FY O k=false:=by
 by_cases e0:k=0
 ·subst e0;simp[lastOf]at e;simp[FY];intro _;omega
 ·simp[lastOf,e0]at e;have:decide ((O (k-1)).id<(O k).id)=false:=by simp;omega
  simp[FY,e0,this]
theorem Vo{O:Nat->Ab}(h:CS (O k)=true)(e:¬(O k).id<=lastOf (fun i=>(O i).id) k):FY O k=true:=by
 by_cases e0:k=0
 ·subst e0;simp[lastOf]at e;simp[FY,h,e]
 ·simp[lastOf,e0]at e;simp[FY,h,e,e0]
def Ae.blk(t:Ae):Obj:= .cells #[t.id,t.b1,t.c1.val,t.b2,t.c2.val,t.own.val,t.made] 39
theorem Ag.c0{W:World}{P t:Nat}{cs:Array Value}(h:Ag W P (.cells cs t))(i:Nat){v:Value}(hv:cs[i]? =some v):W.cell? ⟨P,i,none⟩=some v:=by
 unfold Ag at h;simp[World.cell?,h,hv]
theorem Pk(a:Option Addr)(n cap:Nat)(T:Nat->Ae)(w:World)(hn:n<=maxLen)(hT:Iv w a n T):
 Calls prog 63 #[.slice a n cap] w fun e w'=>e= .returned (.bool (By n T))/\Below w w w':=by
 unfold maxLen at hn;have HT:=hid hT;clear hT;by_cases h1:n<1
 ·have h1':(n:Int)<1:=by omega
  go_enter func63,ntmps63
  go_wp2;go_ret;have:n=0:=by omega
  exact⟨Ah (by simp[By,this]),Below.refl _ _⟩
 have h1':¬(n:Int)<1:=by omega
 by_cases h9:9<n
 ·have h9':(9:Int)<(n:Int):=by omega
  go_enter func63,ntmps63
  go_wp2;go_ret;have:decide (n<=9)=false:=by simp;omega
  exact⟨Ah (by simp[By,this]),Below.refl _ _⟩
 have h9':¬(9:Int)<(n:Int):=by omega
 go_enter func63,ntmps63
 go_wp2;go_loopw [3,16] (fun l i wr=>∃k:Nat,k<=n/\i= .int .i64 k/\l= .int .i64 (lastOf (fun i=>(T i).id) k)/\Hid (∀j,j<k->Et T j=true)/\Below w w wr) (fun _ i _=>n-(intOf i).toNat)
 case atStart=>exact⟨0,Nat.zero_le _,rfl,rfl,hid (fun j hj=>by omega),Below.refl _ _⟩
 case round=>
  obtain⟨k,hk,rfl,rfl,HA,hB⟩:=hrel;by_cases hlt:k<n
  ·obtain⟨b,off,rfl,hlt0,hcc⟩:=HT.out.below hB (by omega);obtain⟨⟨q0,q1,q2,q3,q4,q5,q6⟩,ht⟩:=hcc k hlt;have i1:(k:Int)<(n:Int):=(by omega);have b1:Below wr wr (wr.alloc (T k).blk):=Bf wr _;have SZ:=hid (Vh (T k) _ (ht.below b1));have A0:=Ag.new wr (T k).blk;have B0:=Af hB b1;simp only[Ar.val,AJ.val,Ae.blk,Ae.val]at q2 q4 q5 SZ A0 b1 B0;clear hcc ht;go_wp2_with fail
   refine SZ.out.mono ?_;rintro e w2 ⟨rfl,hb2⟩;have A2:=A0.below hb2;have x0:=A2.c0 0 rfl;have B2:=Af B0 hb2;clear q0 q1 q2 q3 q4 q5 q6 SZ hb2 A0 B0 b1 hlt0;cases t1:Ds (T k)with
   |false=>
    go_wp2;go_ret;exact⟨Ah (by rw[By,He hlt (by simp[Et,t1])];simp),B2⟩
   |true=>
    by_cases t2:(T k).id<=lastOf (fun i=>(T i).id) k
    ·go_wp2;go_ret;exact⟨Ah (by rw[By,He hlt (WK t1 t2)];simp),B2⟩
    ·have HA2:Hid (∀j,j<k+1->Et T j=true):=hid (fun j hj=>by
      by_cases e:j=k
      ·subst e;exact VS t1 t2
      ·exact HA.out j (by omega))
     go_wp2;exact⟨⟨k+1,by omega,by go_num,by rw[Hi],HA2,B2⟩,by simp[intOf];omega⟩
  ·go_wp2;go_ret;have e:k=n:=(by omega);subst e;refine⟨Ah ?_,hB⟩;rw[By,Er HA.out];simp;omega
theorem Ov(a:Option Addr)(n cap:Nat)(O:Nat->Ab)(w:World)(hn:n<=maxLen)(hT:Hz w a n O):
 Calls prog 64 #[.slice a n cap] w fun e w'=>e= .returned (.bool (Cn n O))/\Below w w w':=by
 unfold maxLen at hn;have HT:=hid hT;clear hT;by_cases h1:n<1
 ·have h1':(n:Int)<1:=by omega
  go_enter func64,ntmps64
  go_wp2;go_ret;have:n=0:=by omega
  exact⟨Ah (by simp[Cn,this]),Below.refl _ _⟩
 have h1':¬(n:Int)<1:=by omega
 by_cases h9:271<n
 ·have h9':(271:Int)<(n:Int):=by omega
  go_enter func64,ntmps64
  go_wp2;go_ret;have:decide (n<=271)=false:=by simp;omega
  exact⟨Ah (by simp[Cn,this]),Below.refl _ _⟩
 have h9':¬(271:Int)<(n:Int):=by omega
 go_enter func64,ntmps64
 go_wp2;go_loopw [3,17] (fun l i wr=>∃k:Nat,k<=n/\i= .int .i64 k/\l= .int .i64 (lastOf (fun i=>(O i).id) k)/\Hid (∀j,j<k->FY O j=true)/\Below w w wr) (fun _ i _=>n-(intOf i).toNat)
 case atStart=>exact⟨0,Nat.zero_le _,rfl,rfl,hid (fun j hj=>by omega),Below.refl _ _⟩
 case round=>
  obtain⟨k,hk,rfl,rfl,HA,hB⟩:=hrel;by_cases hlt:k<n
  ·obtain⟨b,off,rfl,hlt0,hcc⟩:=HT.out.below hB (by omega);obtain⟨⟨q0,q1,q2,q3,q4,q5,q6,q7,q8,q9⟩,ht⟩:=hcc k hlt;have i1:(k:Int)<(n:Int):=(by omega);have b1:Below wr wr (wr.alloc (.cells #[.int .i64 (O k).id,.int .i64 (O k).kind,.int .i64 (O k).up,.int .i64 (O k).b1,(O k).c1.val,.string (O k).data,(O k).jA.val,(O k).own.val,.int .i64 (O k).b2,(O k).c2.val] 44)):=Bf wr _;have SZ:=hid (QF (O k) _ (ht.below b1));have A0:=Ag.new wr (.cells #[.int .i64 (O k).id,.int .i64 (O k).kind,.int .i64 (O k).up,.int .i64 (O k).b1,(O k).c1.val,.string (O k).data,(O k).jA.val,(O k).own.val,.int .i64 (O k).b2,(O k).c2.val] 44);have B0:=Af hB b1;simp only[Ar.val,AJ.val,AH.val,Ab.val]at q4 q6 q7 q9 SZ A0 b1 B0;clear hcc ht;go_wp2_with fail
   refine SZ.out.mono ?_;rintro e w2 ⟨rfl,hb2⟩;have A2:=A0.below hb2;have x0:=A2.c0 0 rfl;have B2:=Af B0 hb2;clear q0 q1 q2 q3 q4 q5 q6 q7 q8 q9 SZ hb2 A0 B0 b1 hlt0;cases t1:CS (O k)with
   |false=>
    go_wp2;go_ret;exact⟨Ah (by rw[Cn,He hlt (by simp[FY,t1])];simp),B2⟩
   |true=>
    by_cases t2:(O k).id<=lastOf (fun i=>(O i).id) k
    ·go_wp2;go_ret;exact⟨Ah (by rw[Cn,He hlt (WZ t2)];simp),B2⟩
    ·have HA2:Hid (∀j,j<k+1->FY O j=true):=hid (fun j hj=>by
      by_cases e:j=k
      ·subst e;exact Vo t1 t2
      ·exact HA.out j (by omega))
     go_wp2;exact⟨⟨k+1,by omega,by go_num,by rw[Hi],HA2,B2⟩,by simp[intOf];omega⟩
  ·have e:k=n:=(by omega);subst e;obtain⟨b,off,rfl,hlt0,hcc⟩:=HT.out.below hB (by omega);obtain⟨⟨q0,q1,q2,q3,q4,q5,q6,q7,q8,q9⟩,ht⟩:=hcc 0 (by omega);simp only[Nat.zero_mul,Nat.add_zero]at q0 q1 q2 q3 q4 q5 q6 q7 q8 q9;have i0:(0:Int)<(k:Int):=(by omega);have OK:Hid (Cn k O=FJ (O 0)):=hid (by
    have d1:decide (1<=k)=true:=(by simp;omega);have d2:decide (k<=271)=true:=(by simp;omega);rw[Cn,Er HA.out,d1,d2];rfl)
   simp only[Ar.val,AJ.val,AH.val]at q4 q6 q7 q9;clear hcc ht HA;go_wp2;all_goals
    go_ret;refine⟨Ah ?_,hB.alloc hB.size _⟩;rw[OK.out];clear q0 q1 q2 q3 q4 q5 q6 q7 q8 q9;simp_all[FJ]
open Go.Maps
variable {w w':World}{b n k o:Nat}
theorem H9:Keyed prog 2:=int_keyed underlying2
theorem Zu(w:World):(zeroValue 2).run prog w= .ok (.int .i64 0) w:=by kernel_rfl
def look(f g:Nat->Int):Nat->Int->Option Int
 |0,_=>none
 |k+1,x=>if f k=x then some (g k)else look f g k x
def Br(w:World)(b n:Nat)(m:Int->Option Int):Prop:=
 ∃D:DataW Unit,w.ownsMap prog 2 (plainElem prog 2) b n D/\IsMap D/\
  ∀x,Maps.has D (.int .i64 x)=(m x).isSome/\∀v,m x=some v->D.atKey (.int .i64 x) (.lit (.int .i64 0))= .lit (.int .i64 v)
theorem Br.made(w:World):Br (w.alloc (.map #[] 0)) w 0 (fun _=>none):=
 ⟨.map [],World.ownsMap_made _ _ _ _,isMap_empty,fun x=>⟨rfl,fun v h=>by cases h⟩⟩
theorem Br.of_block{m:Int->Option Int}(h:Br w b n m)(e:w'.heap[b]? =w.heap[b]?):Br w' b n m:=by
 obtain⟨D,⟨es,clock,hb,F,hs,hD⟩,r⟩:=h;exact⟨D,⟨es,clock,e.trans hb,F,hs,hD⟩,r⟩
theorem Br.setCell{m:Int->Option Int}(h:Br w b n m){a:Addr}(ha:b≠a.block)(v:Value):Br (w.setCell a v) b n m:=h.of_block (blk_setCell_other _ _ _ _ ha)
theorem Br.lt{m:Int->Option Int}(h:Br w b n m):b<w.heap.size:=by
 obtain⟨D,h1,_⟩:=h;exact h1.lt
theorem Br.alloc{m:Int->Option Int}(h:Br w b n m)(o:Obj):Br (w.alloc o) b n m:=by
 obtain⟨D,h1,h2,h3⟩:=h;exact⟨D,h1.alloc o,h2,h3⟩
def jB(m:Int->Option Int)(k v:Int)(x:Int):Option Int:=if k=x then some v else m x
theorem Br.put{D:DataW Unit}{m:Int->Option Int}{k v:Int}(h2:IsMap D)
 (h3:∀x,Maps.has D (.int .i64 x)=(m x).isSome/\∀v,m x=some v->D.atKey (.int .i64 x) (.lit (.int .i64 0))= .lit (.int .i64 v)):
 IsMap (D.put (.int .i64 k) (.lit (.int .i64 v)))/\
 ∀x,Maps.has (D.put (.int .i64 k) (.lit (.int .i64 v))) (.int .i64 x)=(jB m k v x).isSome/\∀u,jB m k v x=some u->(D.put (.int .i64 k) (.lit (.int .i64 v))).atKey (.int .i64 x) (.lit (.int .i64 0))= .lit (.int .i64 u):=by
 refine⟨h2.put _ _,fun x=>?_⟩;by_cases e:k=x
 ·subst e;refine⟨?_,fun u hu=>?_⟩
  ·rw[has_put_same h2 (by trivial)];simp[jB]
  ·simp[jB]at hu;subst hu;exact atKey_put_same h2 (by trivial) _ _
 ·have hne:(Lit.int .i64 x)≠(Lit.int .i64 k):=by simp;exact fun h=>e h.symm
  refine⟨?_,fun u hu=>?_⟩
  ·rw[has_put_other hne];simp[jB,e];exact(h3 x).1
  ·simp[jB,e]at hu;rw[atKey_put_other hne];exact(h3 x).2 u hu
theorem Od(f g:Nat->Int)(k:Nat):jB (look f g k) (f k) (g k)=look f g (k+1):=by
 funext x;rfl
theorem Cj(hg:w.grownBy w' (some b))(hk:k<w.heap.size)(hne:k≠b):w'.cell? ⟨k,o,none⟩=w.cell? ⟨k,o,none⟩:=
 World.cell?_of_block (w:=w) (hg.block k hk (fun e=>hne (by simpa using e)))
theorem GH(hg:w.grownBy w' (some b))(hk:k<w.heap.size)(hne:k≠b):w'.frozen? ⟨k,o,none⟩=w.frozen? ⟨k,o,none⟩:=
 World.frozen?_of_block (w:=w) (hg.block k hk (fun e=>hne (by simpa using e)))
variable {w:World}{b n:Nat}{x:Int}
theorem Br.below{w':World}{m:Int->Option Int}(h:Br w b n m)(hb:Below w w w'):Br w' b n m:=h.of_block (hb.block b h.lt)
theorem Ig(h0: -9223372036854775808<=x)(h1:x<=9223372036854775807):(Lit.int .i64 x).wf=true:=WalkArith.wf_i64 ⟨h0,h1⟩
theorem PF(h:(Lit.int .i64 x).wf=true): -9223372036854775808<=x/\x<=9223372036854775807:=by
 simp only[Lit.wf,Bool.and_eq_true,decide_eq_true_eq]at h;have e1:IntKind.i64.min= -9223372036854775808:=rfl;have e2:IntKind.i64.max=9223372036854775807:=rfl;omega
theorem Br.look{m:Int->Option Int}(h:Br w b n m)(hx:(Lit.int .i64 x).wf=true):
 (Instr.lookup 129 (.map (some b)) (.int .i64 x) false).run prog w= .ok (.int .i64 ((m x).getD 0)) w:=by
 obtain⟨D,hown,hD,hall⟩:=h;obtain⟨c,hrun,hat,_⟩:=hown.lookup_int H9 underlying129 underlying2 (Zu _) (keyOf_int_mk underlying2 hx);obtain⟨h1,h2⟩:=hall x;rw[hrun];cases hm:m x with
 |none=>
  have:Maps.has D (.int .i64 x)=false:=by rw[h1,hm];rfl
  rw[atKey_of_not_has this]at hat;simp at hat;simp[<-hat]
 |some v=>
  have:=(h2 v hm).symm.trans hat;simp at this;simp[this]
def madeOf(n:Nat)(T:Nat->Ae)(x:Int):Int:=(look (fun i=>(T i).id) (fun i=>(T i).made) n x).getD 0
def Fw(n:Nat)(T:Nat->Ae)(id:Int):Bool:=decide (1<=id%1000)&&decide (id%1000<=madeOf n T (id/1000))
def Gx(n:Nat)(T:Nat->Ae)(m:Nat)(O:Nat->Ab):Bool:=(List.range (m-1)).all (fun i=>Fw n T (O (i+1)).id)
theorem Dn{T:Nat->Ae}(h:By n T=true):1<=n/\n<=9/\∀i,i<n->Et T i=true:=by
 simp only[By,Bool.and_eq_true,decide_eq_true_eq]at h;exact⟨h.1.1,h.1.2,Gm h.2⟩
theorem MX{T:Nat->Ae}{i:Nat}(h:Et T i=true):Ds (T i)=true:=by
 simp only[Et,Bool.and_eq_true]at h;exact h.1
theorem J6{t:Ae}(h:Ds t=true):0<=t.made/\t.made<=30:=by
 unfold Ds DO at h;simp only[Bool.and_eq_true]at h;exact Ep.1 (by simp_all)
theorem BZ{O:Nat->Ab}(h:Cn n O=true):1<=n/\n<=271/\(∀i,i<n->FY O i=true)/\FJ (O 0)=true:=by
 simp only[Cn,Bool.and_eq_true,decide_eq_true_eq]at h;exact⟨h.1.1.1,h.1.1.2,Gm h.1.2,h.2⟩
theorem Bu{O:Nat->Ab}(h:Cn n O=true):Du (fun i=>(O i).id) n:=by
 obtain⟨_,_,ha,_⟩:=BZ h;intro i j hij;induction j with
 |zero=>omega
 |succ j ih=>
  intro hj;have h1:=ha (j+1) hj;simp[FY]at h1;by_cases e:i=j
  ·subst e;exact h1.2
  ·have:=ih (by omega) (by omega);simp only at this ⊢;omega
theorem Cv{O:Nat->Ab}(h:Cn n O=true):(O 0).id=1/\(O 0).kind=3/\(O 0).up=0:=by
 obtain⟨_,_,_,hr⟩:=BZ h;simp only[FJ,Bool.and_eq_true,beq_iff_eq]at hr;exact⟨hr.1.1,hr.1.2,hr.2⟩
theorem Fa{O:Nat->Ab}(h:Cn n O=true):∀i,i<n->1<=(O i).id:=by
 intro i hi;have hr:=(Cv h).1;by_cases e:i=0
 ·subst e;omega
 ·have:=Bu h 0 i (by omega) hi;simp only at this;omega
theorem Oy(k:Aw)(w:World)(hk:k.at w)(hcap:k.on<=k.ok)(h1:By k.tn k.T=true)(h2:Cn k.on k.O=true)(hw:∀i,i<k.on->(Lit.int .i64 (k.O i).id).wf=true):
 Calls prog 65 #[k.val] w fun e w'=>e= .returned (.bool (Gx k.tn k.T k.on k.O))/\Below w w w':=by
 have hmm:=@run_makeMap prog;obtain⟨ta,tn,tk,T,oa,on,ok,O⟩:=k;obtain⟨_,_,hT,hO⟩:=hk;unfold Aw.val;simp only at h1 h2 hw hT hO hcap ⊢;obtain⟨tn1,tn9,tall⟩:=Dn h1;obtain⟨on1,on2,_,_⟩:=BZ h2;have HT:=hid hT;have HO:=hid hO;obtain⟨tb,toff,rfl,_,_⟩:=hT (by omega);obtain⟨ob,ooff,rfl,_,_⟩:=hO (by omega);have HP:=hid (Fa h2);have HW:=hid hw;have HA:=hid tall;clear h1 h2 hw tall hT hO;have n2:Na #[.slice (some ⟨tb,toff,none⟩) tn tk,.slice (some ⟨ob,ooff,none⟩) on ok]:=⟨⟩;have hb0:=Bf w (.cells n2 27);have A0:=Ag.new w (.cells n2 27);have hb1:=Af hb0 (Bf _ (.map #[] 0));have A1:=A0.alloc (.map #[] 0);have M0:=Br.made (w.alloc (.cells n2 27));go_enter func65,ntmps65
 go_wp2;generalize hW:((w.alloc (Obj.cells n2 27)).alloc (Obj.map #[] 0))=W at *;have M1:Br W (w.heap.size+1) 0 (look (fun i=>(T i).id) (fun i=>(T i).made) 0):=by simpa[look]using M0
 clear M0 hb0 A0 hmm hW;go_loopw [13] (fun i wr=>∃j:Nat,j<=tn/\i= .int .i64 j/\Br wr (w.heap.size+1) j (look (fun i=>(T i).id) (fun i=>(T i).made) j)/\Ag wr w (.cells n2 27)/\Below w w wr) (fun i _=>tn-(intOf i).toNat)
 case atStart=>exact⟨0,Nat.zero_le _,rfl,M1,A1,hb1⟩
 case round=>
  obtain⟨j,hj,rfl,HM,A,hB⟩:=hrel;clear M1 A1 hb1;by_cases hlt:j<tn
  ·obtain⟨_,_,ea,hlt0,hcc⟩:=HT.out.below hB (by omega);cases ea;obtain⟨⟨q0,q1,q2,q3,q4,q5,q6⟩,ht⟩:=hcc j hlt;have i1:(j:Int)<(tn:Int):=(by omega);have t1:=MX (HA j hlt);have hkey:keyOf prog 2 (.int .i64 (T j).id)=some (.int .i64 (T j).id):=keyOf_int_mk underlying2 (Ig (by have:=KR t1;omega) (by have:=KR t1;omega));have W2:Hid ((Lit.int .i64 (T j).made).wf=true):=Ig (by have:=J6 t1;omega) (by have:=J6 t1;omega);have hlm:=HM.lt;obtain⟨D,hown,hD,hm⟩:=HM;simp only[Ar.val,AJ.val]at q2 q4 q5;clear hcc ht t1;go_wp2_with(at_mapUpdate;refine wpList_mapUpdate_own _ rfl _ _ _ 129 rfl 2 2 H9 underlying129 _ (w.heap.size+1) j _ rfl (hown.alloc _) (by unfold maxLen;omega) _ _ _ rfl rfl hkey _ [] (plainElem_int underlying2 W2) ?_;intro w1 hown1 hgrow1)
   have hm1:=Br.put (k:=(T j).id) (v:=(T j).made) hD hm;rw[Od (fun i=>(T i).id) (fun i=>(T i).made) j]at hm1;have A3:=A.alloc (.cells (T j) 39);refine⟨⟨j+1,by omega,by go_num,⟨_,hown1,hm1.1,hm1.2⟩,?_,?_⟩,by simp[intOf];omega⟩
   ·exact(hgrow1.block _ A3.lt (by simp)).trans A3
   ·exact(hB.alloc hB.size _).grown hgrow1 (by simp;omega) (fun i hi=>by cases hi;omega)
  ·have e:j=tn:=(by omega);subst e;have i1:¬(j:Int)<(j:Int):=(by omega);obtain⟨y0,y1⟩:=A.two;have c1:(on:Int)<=(ok:Int):=(by omega);have c2:(1:Int)<=(on:Int):=(by omega);clear HT HA y0;by_cases hok:ok=1
   ·obtain rfl:on=1:=by omega
    subst hok;go_wp2;go_loopw [27] (fun i wr'=>i= .int .i64 0/\Below w w wr') (fun i _=>0)
    case atStart=>exact⟨rfl,hB⟩
    case round=>
     obtain⟨rfl,hB'⟩:=hrel;go_wp2;go_ret;exact⟨Ah (by simp[Gx]),hB'⟩
   ·go_wp2;go_loopw [27] (fun i wr'=>∃q:Nat,q<=on-1/\i= .int .i64 q/\Hid (∀p,p<q->Fw j T (O (p+1)).id=true)/\Br wr' (w.heap.size+1) j (look (fun i=>(T i).id) (fun i=>(T i).made) j)/\Below w w wr') (fun i _=>on-1-(intOf i).toNat)
    case atStart=>exact⟨0,Nat.zero_le _,rfl,hid (fun p hp=>by omega),HM,hB⟩
    case round=>
    obtain⟨q,hq,rfl,HN,HM',hB'⟩:=hrel;clear y1 A hB HM;by_cases hlt2:q<on-1
    ·obtain⟨_,_,ea,hlt0,hcc⟩:=HO.out.below hB' (by omega);cases ea;obtain⟨⟨q0,q1,q2,q3,q4,q5,q6,q7,q8,q9⟩,ht⟩:=hcc (q+1) (by omega);have ei:ooff+(q+1)*10=ooff+10+q*10:=(by omega);rw[ei]at q0 q1 q2 q3 q4 q5 q6 q7 q8 q9;have i2:(q:Int)<((on-1:Nat):Int):=(by omega);have hp:=HP.out (q+1) (by omega);simp only[Ar.val,AJ.val,AH.val]at q4 q6 q7 q9;have hww:=HW.out (q+1) (by omega);have hwb:=PF hww;have ed:wrap64 ((O (q+1)).id.tdiv 1000)=(O (q+1)).id/1000:=by
      rw[Int.tdiv_eq_ediv_of_nonneg (by omega)];unfold wrap64;omega
     have n1:No (.cells (O (q+1)) 44):=⟨⟩;have LK:=(HM'.alloc n1).look (x:=(O (q+1)).id/1000) (Ig (by omega) (by omega));have em:((look (fun i=>(T i).id) (fun i=>(T i).made) j ((O (q+1)).id/1000)).getD 0)=madeOf j T ((O (q+1)).id/1000):=rfl;rw[em]at LK;have HMa:=HM'.alloc n1;clear hcc ht ei em hww hwb;go_wp2
     ·go_ret;have t1:madeOf j T ((O (q+1)).id/1000)<(O (q+1)).id%1000:=(by omega);refine⟨Ah ?_,hB'.alloc hB'.size _⟩;rw[Gx,He hlt2];have:decide ((O (q+1)).id%1000<=madeOf j T ((O (q+1)).id/1000))=false:=(by simp;omega);simp[Fw,this]
     ·have t1:(O (q+1)).id%1000<=madeOf j T ((O (q+1)).id/1000):=(by omega);have t0:1<=(O (q+1)).id%1000:=(by assumption);refine⟨⟨q+1,by omega,by go_num,hid (fun p hp=>?_),HMa,hB'.alloc hB'.size _⟩,by simp[intOf];omega⟩;by_cases e:p=q
      ·subst e;simp[Fw,t0,t1]
      ·exact HN.out p (by omega)
     ·go_ret;have t1:(O (q+1)).id%1000<1:=(by assumption);refine⟨Ah ?_,hB'.alloc hB'.size _⟩;rw[Gx,He hlt2];have:decide (1<=(O (q+1)).id%1000)=false:=(by simp;omega);simp[Fw,this]
    ·have e:q=on-1:=(by omega);subst e;go_wp2;go_ret;exact⟨Ah (by rw[Gx,Er HN.out]),hB'⟩
end Go.Proofs.YteoihknaljgocaaGreatDoor
