import Derived.Test.YtphddbnadcjhgaaGreatDoorZ0
import Derived.Lib.ConvBytes
import Derived.Maps.Own
import Derived.Maps.OwnSet
set_option maxRecDepth 100000
set_option maxHeartbeats 4000000
namespace Go.Proofs.YtphddbnadcjhgaaGreatDoor
open Go.RowKit Go.Deep
theorem hid{p:Prop}(h:p):Hid p:=h
theorem Af{w a b:World}(h:Below w w a)(k:Below a a b):Below w w b:=h.trans (k.mono h.size)
structure Av where
 a:Option Addr
 n:Nat
 k:Nat
 f:Nat->Int
 g:Nat->Int
structure AI where
 a:Option Addr
 n:Nat
 k:Nat
 h:Nat->Int
def Av.at(w:World)(c:Av):Prop:=c.n<=maxLen/\AL w c.a c.n c.f c.g
def AI.at(w:World)(c:AI):Prop:=c.n<=maxLen/\Be w c.a c.n c.h
def Av.val(c:Av):Value:= .slice c.a c.n c.k
def AI.val(c:AI):Value:= .slice c.a c.n c.k
structure Ac where
 id:Int
 b1:Int
 c1:Av
 b2:Int
 c2:Av
 own:AI
 made:Int
def Ac.val(t:Ac):Value:= .agg #[t.id,t.b1,t.c1.val,t.b2,t.c2.val,t.own.val,t.made]
def Ac.at(w:World)(t:Ac):Prop:=t.c1.at w/\t.c2.at w/\t.own.at w
theorem Av.at.below{w w':World}{c:Av}(h:c.at w)(hb:Below w w w'):c.at w':=⟨h.1,h.2.below hb⟩
theorem AI.at.below{w w':World}{c:AI}(h:c.at w)(hb:Below w w w'):c.at w':=⟨h.1,h.2.below hb⟩
theorem Ac.at.below{w w':World}{t:Ac}(h:t.at w)(hb:Below w w w'):t.at w':=⟨h.1.below hb,h.2.1.below hb,h.2.2.below hb⟩
structure F6(w:World)(b o:Nat)(t:Ac):Prop where
 c0:w.cell? ⟨b,o,none⟩=some (.int .i64 t.id)
 c1:w.cell? ⟨b,o+1,none⟩=some (.int .i64 t.b1)
 c2:w.cell? ⟨b,o+2,none⟩=some t.c1.val
 c3:w.cell? ⟨b,o+3,none⟩=some (.int .i64 t.b2)
 c4:w.cell? ⟨b,o+4,none⟩=some t.c2.val
 c5:w.cell? ⟨b,o+5,none⟩=some t.own.val
 c6:w.cell? ⟨b,o+6,none⟩=some (.int .i64 t.made)
theorem F6.below{w w':World}{b o:Nat}{t:Ac}(h:F6 w b o t)(hl:b<w.heap.size)(hb:Below w w w'):F6 w' b o t:=
 ⟨(hb.cell (p:=⟨b,o,none⟩) hl).trans h.c0,(hb.cell (p:=⟨b,o+1,none⟩) hl).trans h.c1,(hb.cell (p:=⟨b,o+2,none⟩) hl).trans h.c2,(hb.cell (p:=⟨b,o+3,none⟩) hl).trans h.c3,(hb.cell (p:=⟨b,o+4,none⟩) hl).trans h.c4,(hb.cell (p:=⟨b,o+5,none⟩) hl).trans h.c5,(hb.cell (p:=⟨b,o+6,none⟩) hl).trans h.c6⟩
def Hn(w:World)(a:Option Addr)(n:Nat)(T:Nat->Ac):Prop:=
 0<n->∃b off,a=some ⟨b,off,none⟩/\b<w.heap.size/\∀i,i<n->F6 w b (off+i*7) (T i)/\(T i).at w
theorem Hn.below{w w':World}{a:Option Addr}{n:Nat}{T:Nat->Ac}(h:Hn w a n T)(hb:Below w w w'):Hn w' a n T:=fun hn=>by
 obtain⟨b,off,e,hlt,hc⟩:=h hn;exact⟨b,off,e,Nat.lt_of_lt_of_le hlt hb.size,fun i hi=>⟨(hc i hi).1.below hlt hb,(hc i hi).2.below hb⟩⟩
def Ac.small(t:Ac):Prop:=t.c1.n<=1048576/\t.c2.n<=1048576/\t.own.n<=1048576
def HI(w:World)(a:Option Addr)(n:Nat)(f:Nat->ByteArray):Prop:=0<n->∃b off,a=some ⟨b,off,none⟩/\b<w.heap.size/\∀i,i<n->w.cell? ⟨b,off+i,none⟩=some (.string (f i))
theorem HI.below{w w':World}{a:Option Addr}{n:Nat}{f:Nat->ByteArray}(h:HI w a n f)(hb:Below w w w'):HI w' a n f:=fun hn=>by
 obtain⟨b,off,e,hlt,hc⟩:=h hn;exact⟨b,off,e,Nat.lt_of_lt_of_le hlt hb.size,fun i hi=>(hb.cell (p:=⟨b,off+i,none⟩) hlt).trans (hc i hi)⟩
structure As where
 a:Option Addr
 n:Nat
 k:Nat
 f:Nat->ByteArray
def As.at(w:World)(c:As):Prop:=c.n<=maxLen/\HI w c.a c.n c.f/\∀i,i<c.n->(c.f i).size<=maxLen
def As.val(c:As):Value:= .slice c.a c.n c.k
theorem As.at.below{w w':World}{c:As}(h:c.at w)(hb:Below w w w'):c.at w':=⟨h.1,h.2.1.below hb,h.2.2⟩
def As.small(c:As):Prop:=c.n<=1048576/\∀i,i<c.n->(c.f i).size<=1048576
structure Ab where
 id:Int
 kind:Int
 up:Int
 b1:Int
 c1:Av
 data:ByteArray
 items:As
 own:AI
 b2:Int
 c2:Av
def Ab.val(t:Ab):Value:= .agg #[t.id,t.kind,t.up,t.b1,t.c1.val,.string t.data,t.items.val,t.own.val,t.b2,t.c2.val]
def Ab.at(w:World)(t:Ab):Prop:=t.c1.at w/\t.items.at w/\t.own.at w/\t.c2.at w/\t.data.size<=maxLen
theorem Ab.at.below{w w':World}{t:Ab}(h:t.at w)(hb:Below w w w'):t.at w':=⟨h.1.below hb,h.2.1.below hb,h.2.2.1.below hb,h.2.2.2.1.below hb,h.2.2.2.2⟩
def Ab.small(t:Ab):Prop:=t.c1.n<=1048576/\t.data.size<=1048576/\t.items.small/\t.own.n<=1048576/\t.c2.n<=1048576
structure Cz(w:World)(b o:Nat)(t:Ab):Prop where
 c0:w.cell? ⟨b,o,none⟩=some (.int .i64 t.id)
 c1:w.cell? ⟨b,o+1,none⟩=some (.int .i64 t.kind)
 c2:w.cell? ⟨b,o+2,none⟩=some (.int .i64 t.up)
 c3:w.cell? ⟨b,o+3,none⟩=some (.int .i64 t.b1)
 c4:w.cell? ⟨b,o+4,none⟩=some t.c1.val
 c5:w.cell? ⟨b,o+5,none⟩=some (.string t.data)
 c6:w.cell? ⟨b,o+6,none⟩=some t.items.val
 c7:w.cell? ⟨b,o+7,none⟩=some t.own.val
 c8:w.cell? ⟨b,o+8,none⟩=some (.int .i64 t.b2)
 c9:w.cell? ⟨b,o+9,none⟩=some t.c2.val
theorem Cz.below{w w':World}{b o:Nat}{t:Ab}(h:Cz w b o t)(hl:b<w.heap.size)(hb:Below w w w'):Cz w' b o t:=
 ⟨(hb.cell (p:=⟨b,o,none⟩) hl).trans h.c0,(hb.cell (p:=⟨b,o+1,none⟩) hl).trans h.c1,(hb.cell (p:=⟨b,o+2,none⟩) hl).trans h.c2,(hb.cell (p:=⟨b,o+3,none⟩) hl).trans h.c3,(hb.cell (p:=⟨b,o+4,none⟩) hl).trans h.c4,(hb.cell (p:=⟨b,o+5,none⟩) hl).trans h.c5,(hb.cell (p:=⟨b,o+6,none⟩) hl).trans h.c6,(hb.cell (p:=⟨b,o+7,none⟩) hl).trans h.c7,(hb.cell (p:=⟨b,o+8,none⟩) hl).trans h.c8,(hb.cell (p:=⟨b,o+9,none⟩) hl).trans h.c9⟩
def GP(w:World)(a:Option Addr)(n:Nat)(T:Nat->Ab):Prop:=
 0<n->∃b off,a=some ⟨b,off,none⟩/\b<w.heap.size/\∀i,i<n->Cz w b (off+i*10) (T i)/\(T i).at w
theorem GP.below{w w':World}{a:Option Addr}{n:Nat}{T:Nat->Ab}(h:GP w a n T)(hb:Below w w w'):GP w' a n T:=fun hn=>by
 obtain⟨b,off,e,hlt,hc⟩:=h hn;exact⟨b,off,e,Nat.lt_of_lt_of_le hlt hb.size,fun i hi=>⟨(hc i hi).1.below hlt hb,(hc i hi).2.below hb⟩⟩
theorem Ah.ten{W:World}{P t:Nat}{x0 x1 x2 x3 x4 x5 x6 x7 x8 x9:Value}(h:Ah W P (.cells #[x0,x1,x2,x3,x4,x5,x6,x7,x8,x9] t)):W.cell? ⟨P,0,none⟩=some x0/\W.cell? ⟨P,1,none⟩=some x1/\W.cell? ⟨P,2,none⟩=some x2/\W.cell? ⟨P,3,none⟩=some x3/\W.cell? ⟨P,4,none⟩=some x4/\W.cell? ⟨P,5,none⟩=some x5/\W.cell? ⟨P,6,none⟩=some x6/\W.cell? ⟨P,7,none⟩=some x7/\W.cell? ⟨P,8,none⟩=some x8/\W.cell? ⟨P,9,none⟩=some x9:=by
 unfold Ah at h;simp[World.cell?,h]
def Ab.cells(t:Ab):Array Value:=#[t.id,t.kind,t.up,t.b1,t.c1.val,.string t.data,t.items.val,t.own.val,t.b2,t.c2.val]
structure Aq where
 ta:Option Addr
 tn:Nat
 tk:Nat
 T:Nat->Ac
 oa:Option Addr
 on:Nat
 ok:Nat
 O:Nat->Ab
def Aq.val(k:Aq):Value:= .agg #[.slice k.ta k.tn k.tk,.slice k.oa k.on k.ok]
def Aq.at(w:World)(k:Aq):Prop:=k.tn<=maxLen/\k.on<=maxLen/\Hn w k.ta k.tn k.T/\GP w k.oa k.on k.O
theorem Aq.at.below{w w':World}{k:Aq}(h:k.at w)(hb:Below w w w'):k.at w':=⟨h.1,h.2.1,h.2.2.1.below hb,h.2.2.2.below hb⟩
def Aq.small(k:Aq):Prop:=(k.tn<=1048576/\∀i,i<k.tn->(k.T i).small)/\(k.on<=1048576/\∀i,i<k.on->(k.O i).small)
open Go.Proofs.Tryz
def Er(b:UInt8):Bool:=decide (32<=b.toNat)&&decide (b.toNat<=126)
def Bm(s:ByteArray)(most:Int):Bool:=s.data.toList.all Er&&decide ((s.size:Int)<=most)
theorem JX{s:ByteArray}{most:Int}{k:Nat}(h:k<s.size)(hb:Er s[k]=false):Bm s most=false:=by
 have:s.data.toList.all Er=false:=by
  rw[List.all_eq_false];exact⟨s[k],Array.getElem_mem_toList h,by simp[hb]⟩
 simp[Bm,this]
theorem Om{s:ByteArray}{most:Int}(h:∀(k:Nat) (hk:k<s.size),Er s[k]=true):Bm s most=decide ((s.size:Int)<=most):=by
 have:s.data.toList.all Er=true:=by
  rw[List.all_eq_true];intro b hb;obtain⟨k,hk,rfl⟩:=List.getElem_of_mem hb;have hk':k<s.size:=by simpa using hk
  have:=h k hk';have e:s[k]=s.data.toList[k]:=rfl;rw[e]at this;exact this
 simp[Bm,this]
theorem IW{b:UInt8}(h:(b.toNat:Int)<32):Er b=false:=by
 have:¬32<=b.toNat:=by omega
 simp[Er,this]
theorem Pg{b:UInt8}(h:126<(b.toNat:Int)):Er b=false:=by
 have:¬b.toNat<=126:=by omega
 simp[Er,this]
theorem Nj{b:UInt8}(h1:32<=(b.toNat:Int))(h2:(b.toNat:Int)<=126):Er b=true:=by
 have e1:32<=b.toNat:=by omega
 have e2:b.toNat<=126:=by omega
 simp[Er,e1,e2]
theorem Iu(s:ByteArray)(most:Int)(w:World)(hn:s.size<=maxLen):
 Calls prog 82 #[.string s,.int .i64 most] w fun e w'=>e= .returned (.bool (Bm s most))/\w'=w:=by
 unfold maxLen at hn;go_enter func82,ntmps82
 go_wp2;go_loop [5] (fun i=>∃k:Nat,k<=s.size/\i= .int .i64 k/\(∀(j:Nat) (hj:j<s.size),j<k->Er s[j]=true)) (fun i=>s.size-(intOf i).toNat)
 case atStart=>exact⟨0,Nat.zero_le _,rfl,fun j _ hj=>by omega⟩
 case round=>
  obtain⟨k,hk,rfl,hall⟩:=hrel;have HA:Hid (∀(j:Nat) (hj:j<s.size),j<k->Er s[j]=true):=hall;clear hall;by_cases hlt:k<s.size
  ·have hki:(k:Int)<(s.size:Int):=(by omega);go_wp2
   ·go_ret;rename_i h1 h2 _;refine⟨Ag (JX hlt ?_).symm,rfl⟩;rcases h2 with h2|h2
    ·exact IW h2
    ·exact Pg h2
   ·rename_i h1 h2;go_round;case rel=>
     refine⟨k+1,by omega,by go_num,fun j hj hjk=>?_⟩;by_cases e:j=k
     ·subst e;exact Nj h2.1 h2.2
     ·exact HA.out j hj (by omega)
    case measure=>simp[intOf];omega
   ·go_ret;rename_i h1;exact⟨Ag (JX hlt (IW h1)).symm,rfl⟩
  ·have hki:¬(k:Int)<(s.size:Int):=(by omega);go_wp2;go_ret;exact⟨Ag (Om (fun j hj=>HA j hj (by omega))).symm,rfl⟩
theorem bytesWorld_below(w:World)(e:TypeId)(s:ByteArray):Below w w (Lib.bytesWorld w e s):=
 ⟨rfl,rfl,rfl,by rw[Lib.bytesWorld_size];omega,fun k hk=>Lib.bytesWorld_at_old w e s k hk⟩
theorem Jg(s:ByteArray)(w:World)(hn:s.size<=maxLen):
 Calls prog 67 #[.string s] w fun e w'=>e= .returned (.bool (Bm s 40))/\Below w w w':=by
 unfold maxLen at hn;by_cases h40:40<s.size
 ·have h40':(40:Int)<(s.size:Int):=by omega
  go_enter func67,ntmps67
  go_wp2;go_ret;have:¬(s.size:Int)<=40:=by omega
  exact⟨Ag (by simp[Bm,this]),Below.refl _ _⟩
 ·have h40':(s.size:Int)<=40:=by omega
  have kc:=fun(w:World) (s:ByteArray)=>Lib.run_convert_string_bytes (P:=prog) w 9 22 5 s underlying9 underlying22 underlying5;go_enter func67,ntmps67
  go_wp2_with fail
  have hB:=bytesWorld_below w 5 s;have hcell:∀(j:Nat) (hj:j<s.size),(Lib.bytesWorld w 5 s).cell? ⟨w,j,none⟩=some (.int .u8 (s[j].toNat:Int)):=fun j hj=>by
   rw[Lib.bytesWorld_cell w 5 s j hj];have e:s.data.toList.getD j 0=s[j]:=by
    have hj':j<s.data.toList.length:=(by simpa using hj);rw[List.getD_eq_getElem?_getD,List.getElem?_eq_getElem hj'];rfl
   rw[e]
  generalize Lib.bytesWorld w 5 s=W at *;generalize grownCap w s.size 0 5=cp at *;go_loop [11] (fun i=>∃k:Nat,k<=s.size/\i= .int .i64 k/\(∀(j:Nat) (hj:j<s.size),j<k->Er s[j]=true)) (fun i=>s.size-(intOf i).toNat)
  case atStart=>exact⟨0,Nat.zero_le _,rfl,fun j _ hj=>by omega⟩
  case round=>
   obtain⟨k,hk,rfl,hall⟩:=hrel;have HA:Hid (∀(j:Nat) (hj:j<s.size),j<k->Er s[j]=true):=hall;clear hall;by_cases hlt:k<s.size
   ·have hki:(k:Int)<(s.size:Int):=(by omega);have hc:=hcell k hlt;clear hcell;go_wp2
    ·go_ret;rename_i h1 h2 _;refine⟨Ag (JX hlt ?_).symm,hB⟩;rcases h2 with h2|h2
     ·exact IW h2
     ·exact Pg h2
    ·rename_i h1 h2;go_round;case rel=>
      refine⟨k+1,by omega,by go_num,fun j hj hjk=>?_⟩;by_cases e:j=k
      ·subst e;exact Nj h2.1 h2.2
      ·exact HA.out j hj (by omega)
     case measure=>simp[intOf];omega
    ·go_ret;rename_i h1;exact⟨Ag (JX hlt (IW h1)).symm,hB⟩
   ·have hki:¬(k:Int)<(s.size:Int):=(by omega);clear hcell;go_wp2;go_ret;exact⟨Ag (by rw[Om (fun j hj=>HA.out j hj (by omega))];simpa using h40'),hB⟩
def Dd(base:Int)(n:Nat):Bool:=(base==0)&&(n==0)
def Yu(kind:Int):Bool:=kind==2||kind==3||kind==4||kind==5||kind==6||kind==7||kind==8||kind==9||kind==10||kind==11||kind==13||kind==15
def ZN(kind:Int):Bool:=kind==8
def PQ(kind:Int):Bool:=kind==5||kind==14
def Mu(kind:Int):Bool:=kind==6||kind==9
def Ko(kind:Int):Bool:=kind==2||kind==3||kind==4||kind==5||kind==12
def Kx(kind:Int):Bool:=kind==5
def YV(kind:Int):Bool:=kind==1||kind==2||kind==3||kind==4||kind==5||kind==6||kind==7||kind==8||kind==9||kind==10||kind==11||kind==12||kind==13||kind==14||kind==15
def Kf(n:Int)(used:Bool):Bool:=if used then Ds n 1 9030 else n==0
def Lv(kind cat:Int)(used:Bool):Bool:=if cat==0 then kind != 14 else used&&Ds cat 1 9999
theorem Ji(base:Int)(a:Option Addr)(n cap:Nat)(w:World)(hn:n<=maxLen):
 Calls prog 66 #[.agg #[.int .i64 base,.slice a n cap]] w fun e w'=>e= .returned (.bool (Dd base n))/\Below w w w':=by
 unfold maxLen at hn;have hb0:=(Below.refl _ w).alloc (Nat.le_refl _) (.cells #[.int .i64 base,.slice a n cap] 30);cases t:(base==0)with
 |true=>
  go_enter func66,ntmps66
  go_wp2;go_ret;refine⟨Ag ?_,hb0⟩;unfold Dd;rw[t,Bool.true_and];by_cases e:n=0
  ·subst e;rfl
  ·have e1:(n==0)=false:=(by simpa using e);rw[e1];simp;omega
 |false=>
  go_enter func66,ntmps66
  go_wp2;go_ret;exact⟨Ag (by simp[Dd,t]),hb0⟩
def Dt(n:Nat)(f:Nat->ByteArray):Bool:=decide (n<=8)&&(List.range n).all (fun i=>Bm (f i) 40)
theorem Ng{n:Nat}{f:Nat->ByteArray}(e:8<n):Dt n f=false:=by
 have:decide (n<=8)=false:=by simp;omega
 simp[Dt,this]
theorem Ot{n k:Nat}{f:Nat->ByteArray}(hk:k<n)(e:Bm (f k) 40=false):Dt n f=false:=by
 have:(List.range n).all (fun i=>Bm (f i) 40)=false:=by
  rw[List.all_eq_false];exact⟨k,List.mem_range.2 hk,by simp[e]⟩
 simp[Dt,this]
theorem MA{n:Nat}{f:Nat->ByteArray}(e:∀i,i<n->Bm (f i) 40=true):Dt n f=decide (n<=8):=by
 have:(List.range n).all (fun i=>Bm (f i) 40)=true:=by
  rw[List.all_eq_true];intro i hi;exact e i (List.mem_range.1 hi)
 simp[Dt,this]
theorem Tl{n:Nat}{f:Nat->ByteArray}(e:Dt n f=true):n<=8/\∀i,i<n->Bm (f i) 40=true:=by
 simp only[Dt,Bool.and_eq_true,decide_eq_true_eq,List.all_eq_true,List.mem_range]at e;exact e
theorem Rx(a:Option Addr)(n cap:Nat)(f:Nat->ByteArray)(w:World)(hn:n<=maxLen)(hc:HI w a n f)(hz:∀i,i<n->(f i).size<=maxLen):
 Calls prog 128 #[.slice a n cap] w fun e w'=>e= .returned (.bool (Dt n f))/\Below w w w':=by
 unfold maxLen at hn;have HC:=hid hc;have HZ:=hid hz;clear hc hz;by_cases h8:8<n
 ·have h8':(8:Int)<(n:Int):=by omega
  go_enter func128,ntmps128
  go_wp2;go_ret;exact⟨Ag (Ng h8).symm,Below.refl _ _⟩
 ·have h8':¬(8:Int)<(n:Int):=by omega
  go_enter func128,ntmps128
  go_wp2;go_loopw [10] (fun i wr=>∃k:Nat,k<=n/\i= .int .i64 k/\Hid (∀j,j<k->Bm (f j) 40=true)/\Below w w wr) (fun i _=>n-(intOf i).toNat)
  case atStart=>exact⟨0,Nat.zero_le _,rfl,hid (fun j hj=>by omega),Below.refl _ _⟩
  case round=>
   obtain⟨k,hk,rfl,HA,hB⟩:=hrel;by_cases hlt:k<n
   ·obtain⟨b,off,rfl,hlt0,hcc⟩:=HC.out.below hB (by omega);have g1:=hcc k hlt;have z:=HZ.out k hlt;have i1:(k:Int)<(n:Int):=(by omega);clear hcc;go_wp2_with fail
    refine(Jg _ _ z).mono ?_;rintro e w1 ⟨rfl,hb1⟩;have B1:=Af hB hb1;clear g1;by_cases t:Bm (f k) 40=true
    ·have HA2:Hid (∀j,j<k+1->Bm (f j) 40=true):=hid (fun j hj=>by
      by_cases e:j=k
      ·subst e;exact t
      ·exact HA.out j (by omega))
     go_wp2;exact⟨⟨k+1,by omega,by go_num,HA2,B1⟩,by simp[intOf];omega⟩
    ·have t':Bm (f k) 40=false:=(by simpa using t);clear t;go_wp2;go_ret;exact⟨Ag (Ot hlt t').symm,B1⟩
   ·go_wp2;go_ret;have e:k=n:=(by omega);subst e;exact⟨Ag (by rw[MA HA.out];simp;omega),hB⟩
def Gm(t:Ab):Bool:=
 if t.kind=1 then t.items.n==0&&(t.own.n==0&&Dd t.b2 t.c2.n)
 else if t.kind=2 then t.data.toList.isEmpty&&(t.own.n==0&&Dd t.b2 t.c2.n)
 else if t.kind=3 then t.data.toList.isEmpty&&t.items.n==0&&(t.own.n==0&&Dd t.b2 t.c2.n)
 else if t.kind=4 then t.data.toList.isEmpty&&t.items.n==0
 else false
def BZ(t:Ab):Bool:=AH t.b1 t.c1.n t.c1.f t.c1.g&&AH t.b2 t.c2.n t.c2.f t.c2.g&&Bu t.own.n t.own.h&&Bm t.data 40&&Dt t.items.n t.items.f&&Gm t
theorem Zr(n:Nat):((n:Int)==0)=(n==0):=by
 by_cases e:n=0
 ·subst e;rfl
 ·have e1:(n==0)=false:=by simpa using e
  rw[e1];simp;omega
theorem Ui(b:Int)(c:Av)(w:World)(hc:c.at w):
 Calls prog 65 #[.agg #[.int .i64 b,c.val]] w fun e w'=>e= .returned (.bool (AH b c.n c.f c.g))/\Below w w w':=Dw b c.a c.n c.k c.f c.g w hc.1 hc.2
theorem YH(c:AI)(w:World)(hc:c.at w):
 Calls prog 127 #[c.val] w fun e w'=>e= .returned (.bool (Bu c.n c.h))/\w'=w:=Hu c.a c.n c.k c.h w hc.1 hc.2
theorem Yj(c:As)(w:World)(hc:c.at w):
 Calls prog 128 #[c.val] w fun e w'=>e= .returned (.bool (Dt c.n c.f))/\Below w w w':=Rx c.a c.n c.k c.f w hc.1 hc.2.1 hc.2.2
theorem ZQ(b:Int)(c:Av)(w:World)(hc:c.at w):
 Calls prog 66 #[.agg #[.int .i64 b,c.val]] w fun e w'=>e= .returned (.bool (Dd b c.n))/\Below w w w':=Ji b c.a c.n c.k w hc.1
theorem PY(t:Ab)(w:World)(ht:t.at w):
 Calls prog 97 #[t.val] w fun e w'=>e= .returned (.bool (BZ t))/\Below w w w':=by
 have n1:No (.cells #[t.id,t.kind,t.up,t.b1,t.c1.val,.string t.data,t.items.val,t.own.val,t.b2,t.c2.val] 40):=⟨⟩;have hb0:=(Below.refl _ w).alloc (Nat.le_refl _) n1;have A0:=Ah.new w n1;have T0:=hid (ht.below hb0);unfold Ab.val;obtain⟨x0,x1,x2,x3,x4,x5,x6,x7,x8,x9⟩:=A0.ten;clear ht;go_enter func97,ntmps97
 go_wp2_with fail
 refine(Ui _ t.c1 _ T0.out.1).mono ?_;rintro e w1 ⟨rfl,hb1⟩;have A1:=A0.below hb1;have T1:=hid (T0.out.below hb1);have B1:=Af hb0 hb1;clear x0 x1 x2 x3 x4 x5 x6 x7 x8 x9 A0 T0 hb0 hb1;obtain⟨x0,x1,x2,x3,x4,x5,x6,x7,x8,x9⟩:=A1.ten;cases t1:AH t.b1 t.c1.n t.c1.f t.c1.g with
 |false=>
  go_wp2;go_ret;exact⟨Ag (by simp[BZ,t1]),B1⟩
 |true=>
 go_wp2_with fail
 refine(Ui _ t.c2 _ T1.out.2.2.2.1).mono ?_;rintro e w2 ⟨rfl,hb2⟩;have A2:=A1.below hb2;have T2:=hid (T1.out.below hb2);have B2:=Af B1 hb2;clear x0 x1 x2 x3 x4 x5 x6 x7 x8 x9 A1 T1 B1 hb2;obtain⟨x0,x1,x2,x3,x4,x5,x6,x7,x8,x9⟩:=A2.ten;cases t2:AH t.b2 t.c2.n t.c2.f t.c2.g with
 |false=>
  go_wp2;go_ret;exact⟨Ag (by simp[BZ,t2]),B2⟩
 |true=>
 go_wp2_with fail
 refine(YH t.own _ T2.out.2.2.1).mono ?_;rintro e w3 ⟨rfl,rfl⟩;cases t3:Bu t.own.n t.own.h with
 |false=>
  go_wp2;go_ret;exact⟨Ag (by simp[BZ,t3]),B2⟩
 |true=>
 go_wp2_with fail
 refine(Jg t.data _ T2.out.2.2.2.2).mono ?_;rintro e w4 ⟨rfl,hb4⟩;have A4:=A2.below hb4;have T4:=hid (T2.out.below hb4);have B4:=Af B2 hb4;clear x0 x1 x2 x3 x4 x5 x6 x7 x8 x9 A2 T2 B2 hb4;obtain⟨x0,x1,x2,x3,x4,x5,x6,x7,x8,x9⟩:=A4.ten;cases t4:Bm t.data 40 with
 |false=>
  go_wp2;go_ret;exact⟨Ag (by simp[BZ,t4]),B4⟩
 |true=>
 go_wp2_with fail
 refine(Yj t.items _ T4.out.2.1).mono ?_;rintro e w5 ⟨rfl,hb5⟩;have A5:=A4.below hb5;have T5:=hid (T4.out.below hb5);have B5:=Af B4 hb5;clear x0 x1 x2 x3 x4 x5 x6 x7 x8 x9 A4 T4 B4 hb5;obtain⟨x0,x1,x2,x3,x4,x5,x6,x7,x8,x9⟩:=A5.ten;cases t5:Dt t.items.n t.items.f with
 |false=>
  go_wp2;go_ret;exact⟨Ag (by simp[BZ,t5]),B5⟩
 |true=>
 have OK:Hid (BZ t=Gm t):=hid (by simp[BZ,t1,t2,t3,t4,t5]);clear t1 t2 t3 t4 t5;unfold As.val at x6;go_wp2_with fail
 have hn5:=T5.out.2.1.1;unfold maxLen at hn5;go_quiet(fail)
 unfold AI.val at x7;have hn6:=T5.out.2.2.1.1;unfold maxLen at hn6;have Z:=hid (ZQ t.b2 t.c2 _ (T5.out.below (below_drewN (Below.refl _ w5) nq)).2.2.2.1);have B6:=below_drewN B5 nq;go_wp2_with(go_at_call 66;refine Z.out.mono ?_;rintro e w6 ⟨rfl,hb6⟩;have x1':=(hb6.cell (p:=⟨w,1,none⟩) A5.lt).trans x1;have B7:=Af B6 hb6)
 all_goals
  go_ret;refine⟨Ag ?_,by assumption⟩;rw[OK.out];first
  |(simp_all[Gm];done)
  |(simp_all[Gm];exact Zr _)
def Bg(ids:Nat->Int)(n:Nat)(x:Int):Option Nat:=(List.range n).find? (fun j=>ids j==x)
def IM(ids ups:Nat->Int)(n i:Nat):Option Nat:=if i=0 then none else Bg ids n (ups i)
def Bi(ids ups:Nat->Int)(n:Nat):Nat->Nat->Option Nat
 |0,i=>some i
 |m+1,i=>(IM ids ups n i).bind (Bi ids ups n m)
def Dh(ids ups:Nat->Int)(n i:Nat):List Nat:=(List.range n).filter (fun j=>ups j==ids i)
def EJ(ids ups:Nat->Int)(n:Nat):Nat->Nat->List Nat
 |0,_=>[]
 |f+1,i=>i::(Dh ids ups n i).flatMap (EJ ids ups n f)
def Db(ids:Nat->Int)(n:Nat):Prop:=∀i j,i<j->j<n->ids i<ids j
theorem AE{ids:Nat->Int}{n:Nat}{x:Int}{j:Nat}(h:Bg ids n x=some j):j<n/\ids j=x:=by
 unfold Bg at h;exact⟨List.mem_range.1 (List.mem_of_find?_eq_some h),by simpa using List.find?_some h⟩
theorem Ht{ids:Nat->Int}{n:Nat}{x:Int}(h:Bg ids n x=none):∀j,j<n->ids j≠x:=by
 unfold Bg at h;rw[List.find?_eq_none]at h;intro j hj e;have:=h j (List.mem_range.2 hj);simp[e]at this
theorem Db.inj{ids:Nat->Int}{n:Nat}(h:Db ids n){i j:Nat}(hi:i<n)(hj:j<n)(e:ids i=ids j):i=j:=by
 rcases Nat.lt_trichotomy i j with h1|h1|h1
 ·have:=h i j h1 hj;omega
 ·exact h1
 ·have:=h j i h1 hi;omega
theorem Dj{ids:Nat->Int}{n:Nat}(h:Db ids n){j:Nat}(hj:j<n):Bg ids n (ids j)=some j:=by
 cases e:Bg ids n (ids j)with
 |none=>exact absurd rfl (Ht e j hj)
 |some k=>
  obtain⟨h1,h2⟩:=AE e;rw[h.inj h1 hj h2]
section
variable {ids ups:Nat->Int}{n:Nat}
theorem Eh(a b i:Nat):Bi ids ups n (a+b) i=(Bi ids ups n a i).bind (Bi ids ups n b):=by
 induction a generalizing i with
 |zero=>simp[Bi]
 |succ a ih=>
  rw[Nat.succ_add];simp only[Bi];cases IM ids ups n i with
  |none=>rfl
  |some k=>simp only[Option.bind_some];exact ih k
theorem OD(i:Nat):Bi ids ups n 1 i=IM ids ups n i:=by
 simp only[Bi];cases IM ids ups n i<;>rfl
theorem Dp(m i:Nat):Bi ids ups n (m+1) i=(Bi ids ups n m i).bind (IM ids ups n):=by
 rw[Eh];congr 1;funext j;exact OD j
theorem MQ{i j:Nat}(h:IM ids ups n i=some j):j<n:=by
 unfold IM at h;split at h
 ·cases h
 ·exact(AE h).1
theorem Rk{m i j:Nat}(hi:i<n)(h:Bi ids ups n m i=some j):j<n:=by
 cases m with
 |zero=>simp only[Bi,Option.some.injEq]at h;omega
 |succ m=>
  rw[Dp]at h;cases e:Bi ids ups n m i with
  |none=>simp[e]at h
  |some k=>simp only[e,Option.bind_some]at h;exact MQ h
def GM(ids ups:Nat->Int)(n i:Nat):Prop:=∀p,Bi ids ups n (p+1) i≠some i
theorem FF:GM ids ups n 0:=fun p h=>by simp[Bi,IM]at h
theorem VJ{i k:Nat}(h:GM ids ups n i)(hk:IM ids ups n k=some i):GM ids ups n k:=fun p e=>by
 have e1:Bi ids ups n p i=some k:=by
  have:=e;simp only[Bi,hk,Option.bind_some]at this;exact this
 exact h p (by rw[Dp,e1];exact hk)
theorem MD{i k m:Nat}(h:GM ids ups n i)(hk:Bi ids ups n m k=some i):GM ids ups n k:=fun p e=>by
 have e2:Bi ids ups n (p+1+m) k=some i:=by rw[Eh,e];exact hk
 rw[Nat.add_comm,Eh,hk]at e2;exact h p e2
theorem Hm(n:Nat)(l:List Nat)(h:∀x∈l,x<n):l.length=((List.range n).map (fun j=>l.count j)).sum:=by
 induction l with
 |nil=>
  have:∀L:List Nat,(L.map (fun j=>([]:List Nat).count j)).sum=0:=by
   intro L;induction L with
   |nil=>rfl
   |cons a L ih=>rw[List.map_cons,List.sum_cons,ih];rfl
  rw[this];rfl
 |cons a l ih=>
  have h1:=ih (fun x hx=>h x (List.mem_cons_of_mem _ hx));have ha:a<n:=h a List.mem_cons_self;have key:∀N,(((List.range N).map (fun j=>(a::l).count j)).sum)=((List.range N).map (fun j=>l.count j)).sum+(if a<N then 1 else 0):=by
   intro N;induction N with
   |zero=>simp
   |succ N ihN=>
    rw[List.range_succ,List.map_append,List.sum_append,List.map_append,List.sum_append,ihN];simp only[List.map_cons,List.map_nil,List.sum_cons,List.sum_nil,List.count_cons];by_cases e:a=N
    ·subst e;simp;omega
    ·have e1:(a==N)=false:=(by simpa using e);simp only[e1];by_cases e2:a<N
     ·have:a<N+1:=(by omega);simp[e2,this];omega
     ·have:¬a<N+1:=(by omega);simp[e2,this]
  rw[key,if_pos ha,List.length_cons,h1]
theorem Mf(n:Nat)(c:Nat->Nat)(h:∀j,c j<=1):((List.range n).map c).sum<=n:=by
 induction n with
 |zero=>simp
 |succ n ih=>rw[List.range_succ,List.map_append,List.sum_append];have:=h n;simp;omega
theorem Xy(n:Nat)(c:Nat->Nat)(h:∀j,c j<=1)(e:((List.range n).map c).sum=n):∀j,j<n->c j=1:=by
 induction n with
 |zero=>intro j hj;omega
 |succ n ih=>
  rw[List.range_succ,List.map_append,List.sum_append]at e;simp at e;have h1:=Mf n c h;have h2:=h n;intro j hj;by_cases e1:j=n
  ·subst e1;omega
  ·exact ih (by omega) j (by omega)
theorem Ym(n:Nat)(c:Nat->Nat)(h:∀j,j<n->c j=1):((List.range n).map c).sum=n:=by
 induction n with
 |zero=>simp
 |succ n ih=>rw[List.range_succ,List.map_append,List.sum_append,ih (fun j hj=>h j (by omega))];simp[h n (by omega)]
theorem Gc{l:List Nat}(hl:l.Nodup)(h:∀x∈l,x<n):l.length<=n:=by
 rw[Hm n l h];exact Mf n _ (fun j=>List.nodup_iff_count.1 hl j)
theorem S6{l:List Nat}(hl:l.Nodup)(h:∀x∈l,x<n):l.length=n↔∀j,j<n->j∈l:=by
 constructor
 ·intro e j hj;rw[Hm n l h]at e;have:=Xy n _ (fun j=>List.nodup_iff_count.1 hl j) e j hj;exact List.count_pos_iff.1 (by omega)
 ·intro e;rw[Hm n l h];refine Ym n _ (fun j hj=>?_);have h1:=List.nodup_iff_count.1 hl j;have h2:=List.count_pos_iff.2 (e j hj);omega
theorem Mi{i j m:Nat}(hc:GM ids ups n i)(hj:j<n)(h:Bi ids ups n m j=some i):m<n:=by
 have each:∀q,q<=m->∃x,Bi ids ups n q j=some x:=fun q hq=>by
  have e:m=q+(m-q):=by omega
  rw[e,Eh]at h;cases e1:Bi ids ups n q j with
  |none=>simp[e1]at h
  |some x=>exact⟨x,rfl⟩
 have hl:((List.range (m+1)).map (fun q=>(Bi ids ups n q j).getD 0)).Nodup:=by
  rw[List.Nodup,List.pairwise_map];refine List.Pairwise.imp_of_mem ?_ (List.pairwise_lt_range (n:=m+1));intro a b ha hb hab e;have ha':=List.mem_range.1 ha;have hb':=List.mem_range.1 hb;obtain⟨x,hx⟩:=each a (by omega);obtain⟨y,hy⟩:=each b (by omega);simp only[hx,hy,Option.getD_some]at e;subst e;have e1:b=a+(b-a-1+1):=by omega
  rw[e1,Eh,hx,Option.bind_some]at hy;have e2:m=a+(m-a):=by omega
  rw[e2,Eh,hx,Option.bind_some]at h;exact MD hc h _ hy
 have:=Gc (n:=n) hl (by
  intro x hx;obtain⟨q,hq,rfl⟩:=List.mem_map.1 hx;have hq':=List.mem_range.1 hq;obtain⟨y,hy⟩:=each q (by omega);rw[hy];exact Rk hj hy)
 simp at this;omega
theorem E7(hr:Db ids n)(h0:∀j,j<n->ids j≠ups 0){i k:Nat}(hi:i<n):k∈Dh ids ups n i↔k<n/\IM ids ups n k=some i:=by
 unfold Dh;rw[List.mem_filter,List.mem_range];constructor
 ·rintro⟨h1,h2⟩;refine⟨h1,?_⟩;have h2':ups k=ids i:=by simpa using h2
  unfold IM;split
  ·rename_i e;subst e;exact absurd h2'.symm (h0 i hi)
  ·rw[h2'];exact Dj hr hi
 ·rintro⟨h1,h2⟩;refine⟨h1,?_⟩;unfold IM at h2;split at h2
  ·cases h2
  ·simp[(AE h2).2]
theorem DO(hr:Db ids n)(h0:∀j,j<n->ids j≠ups 0){f i j:Nat}(hi:i<n):j∈EJ ids ups n f i↔j<n/\∃m,m<f/\Bi ids ups n m j=some i:=by
 induction f generalizing i with
 |zero=>simp[EJ]
 |succ f ih=>
  simp only[EJ,List.mem_cons,List.mem_flatMap];constructor
  ·rintro(rfl|⟨k,hk,hj⟩)
   ·exact⟨hi,0,by omega,rfl⟩
   ·obtain⟨k1,k2⟩:=(E7 hr h0 hi).1 hk;obtain⟨hj',m,hm,e⟩:=(ih k1).1 hj;exact⟨hj',m+1,by omega,by rw[Dp,e];exact k2⟩
  ·rintro⟨hj,m,hm,e⟩;cases m with
   |zero=>simp only[Bi,Option.some.injEq]at e;exact .inl e
   |succ m=>
    rw[Dp]at e;cases e1:Bi ids ups n m j with
    |none=>simp[e1]at e
    |some k=>
     simp only[e1,Option.bind_some]at e;have hk:=Rk hj e1;exact .inr ⟨k,(E7 hr h0 hi).2 ⟨hk,e⟩,(ih hk).2 ⟨hj,m,by omega,e1⟩⟩
theorem Ha(hr:Db ids n)(h0:∀j,j<n->ids j≠ups 0){f i:Nat}(hi:i<n)(hc:GM ids ups n i):(EJ ids ups n f i).Nodup:=by
 induction f generalizing i with
 |zero=>simp[EJ]
 |succ f ih=>
  simp only[EJ,List.nodup_cons,List.mem_flatMap];refine⟨?_,?_⟩
  ·rintro⟨k,hk,hj⟩;obtain⟨k1,k2⟩:=(E7 hr h0 hi).1 hk;obtain⟨_,m,_,e⟩:=(DO hr h0 k1).1 hj;exact hc m (by rw[Dp,e];exact k2)
  ·rw[List.Nodup,List.pairwise_flatMap];refine⟨fun k hk=>?_,?_⟩
   ·obtain⟨k1,k2⟩:=(E7 hr h0 hi).1 hk;exact ih k1 (VJ hc k2)
   ·have hn:(Dh ids ups n i).Nodup:=List.Nodup.sublist List.filter_sublist List.nodup_range;refine List.Pairwise.imp_of_mem ?_ hn;intro a b ha hb hab x hx y hy exy;subst exy;obtain⟨a1,a2⟩:=(E7 hr h0 hi).1 ha;obtain⟨b1,b2⟩:=(E7 hr h0 hi).1 hb;obtain⟨_,p,_,ep⟩:=(DO hr h0 a1).1 hx;obtain⟨_,q,_,eq⟩:=(DO hr h0 b1).1 hy;have far:∀{a b p q:Nat},IM ids ups n a=some i->IM ids ups n b=some i->Bi ids ups n p x=some a->Bi ids ups n q x=some b->p<q->False:=by
     intro a b p q a2 b2 ep eq hpq;have e1:q=p+(q-p-1+1):=(by omega);rw[e1,Eh,ep,Option.bind_some]at eq;simp only[Bi,a2,Option.bind_some]at eq;exact hc (q-p-1) (by rw[Dp,eq];exact b2)
    rcases Nat.lt_trichotomy p q with h|h|h
    ·exact far a2 b2 ep eq h
    ·subst h;rw[ep]at eq;exact hab (by simpa using eq)
    ·exact far b2 a2 eq ep h
def Ek(ids ups:Nat->Int)(n:Nat):Bool:=(List.range n).all fun i=>(List.range n).any fun m=>Bi ids ups n m i==some 0
theorem Fx:Ek ids ups n=true↔∀i,i<n->∃m,m<n/\Bi ids ups n m i=some 0:=by
 simp only[Ek,List.all_eq_true,List.any_eq_true,List.mem_range,beq_iff_eq]
theorem WS(hr:Db ids n)(h0:∀j,j<n->ids j≠ups 0)(hn:0<n):((EJ ids ups n n 0).length=n)↔Ek ids ups n=true:=by
 rw[S6 (Ha hr h0 hn FF) (fun x hx=>((DO hr h0 hn).1 hx).1),Fx];constructor
 ·intro h i hi;exact((DO hr h0 hn).1 (h i hi)).2
 ·intro h i hi;exact(DO hr h0 hn).2 ⟨hi,h i hi⟩
theorem Nk{i m:Nat}(h:Bi ids ups n m i=some 0):GM ids ups n i:=MD FF h
end
def Cn(t:Ac):Bool:=De t.id t.made t.b1 t.c1.n t.c1.f t.c1.g t.b2 t.c2.n t.c2.f t.c2.g t.own.n t.own.h
theorem VM(t:Ac)(w:World)(ht:t.at w):
 Calls prog 96 #[t.val] w fun e w'=>e= .returned (.bool (Cn t))/\Below w w w':=Ik _ _ _ _ _ _ _ _ _ _ _ _ _ _ _ _ _ _ w ht.1.1 ht.2.1.1 ht.2.2.1 ht.1.2 ht.2.1.2 ht.2.2.2
def Dq(T:Nat->Ac)(i:Nat):Bool:=Cn (T i)&&(i==0||decide ((T (i-1)).id<(T i).id))
def Bo(n:Nat)(T:Nat->Ac):Bool:=decide (1<=n)&&decide (n<=9)&&(List.range n).all (Dq T)
def Fe(O:Nat->Ab)(i:Nat):Bool:=BZ (O i)&&(if i=0 then decide (0<(O 0).id)else decide ((O (i-1)).id<(O i).id))
def Fo(t:Ab):Bool:=t.id==1&&t.kind==3&&t.up==0
def BU(n:Nat)(O:Nat->Ab):Bool:=decide (1<=n)&&decide (n<=271)&&(List.range n).all (Fe O)&&Fo (O 0)
theorem Gi{n k:Nat}{p:Nat->Bool}(hk:k<n)(e:p k=false):(List.range n).all p=false:=by
 rw[List.all_eq_false];exact⟨k,List.mem_range.2 hk,by simp[e]⟩
theorem DK{n:Nat}{p:Nat->Bool}(e:∀i,i<n->p i=true):(List.range n).all p=true:=by
 rw[List.all_eq_true];intro i hi;exact e i (List.mem_range.1 hi)
theorem Eo{n:Nat}{p:Nat->Bool}(e:(List.range n).all p=true):∀i,i<n->p i=true:=fun i hi=>List.all_eq_true.1 e i (List.mem_range.2 hi)
theorem JB{t:Ac}(h:Cn t=true):1<=t.id/\t.id<=9:=by
 unfold Cn De at h;simp only[Bool.and_eq_true]at h;exact Cl.1 (by simp_all)
theorem WW{T:Nat->Ac}{k:Nat}(h:Cn (T k)=true)(e:(T k).id<=lastOf (fun i=>(T i).id) k):Dq T k=false:=by
 have h1:=JB h;by_cases e0:k=0
 ·subst e0;simp[lastOf]at e;omega
 ·simp[lastOf,e0]at e;have:decide ((T (k-1)).id<(T k).id)=false:=by simp;omega
  simp[Dq,e0,this]
theorem VT{T:Nat->Ac}{k:Nat}(h:Cn (T k)=true)(e:¬(T k).id<=lastOf (fun i=>(T i).id) k):Dq T k=true:=by
 by_cases e0:k=0
 ·subst e0;simp[Dq,h]
 ·simp[lastOf,e0]at e;simp[Dq,h,e]
theorem WX{O:Nat->Ab}{k:Nat}(e:(O k).id<=lastOf (fun i=>(O i).id) k):Fe O k=false:=by
 by_cases e0:k=0
 ·subst e0;simp[lastOf]at e;simp[Fe];intro _;omega
 ·simp[lastOf,e0]at e;have:decide ((O (k-1)).id<(O k).id)=false:=by simp;omega
  simp[Fe,e0,this]
theorem Vr{O:Nat->Ab}{k:Nat}(h:BZ (O k)=true)(e:¬(O k).id<=lastOf (fun i=>(O i).id) k):Fe O k=true:=by
 by_cases e0:k=0
 ·subst e0;simp[lastOf]at e;simp[Fe,h,e]
 ·simp[lastOf,e0]at e;simp[Fe,h,e,e0]
def Ac.blk(t:Ac):Obj:= .cells #[t.id,t.b1,t.c1.val,t.b2,t.c2.val,t.own.val,t.made] 68
theorem Ah.c0{W:World}{P t:Nat}{cs:Array Value}(h:Ah W P (.cells cs t))(i:Nat){v:Value}(hv:cs[i]? =some v):W.cell? ⟨P,i,none⟩=some v:=by
 unfold Ah at h;simp[World.cell?,h,hv]
theorem NF(a:Option Addr)(n cap:Nat)(T:Nat->Ac)(w:World)(hn:n<=maxLen)(hT:Hn w a n T):
 Calls prog 55 #[.slice a n cap] w fun e w'=>e= .returned (.bool (Bo n T))/\Below w w w':=by
 unfold maxLen at hn;have HT:=hid hT;clear hT;by_cases h1:n<1
 ·have h1':(n:Int)<1:=by omega
  go_enter func55,ntmps55
  go_wp2;go_ret;have:n=0:=by omega
  exact⟨Ag (by simp[Bo,this]),Below.refl _ _⟩
 have h1':¬(n:Int)<1:=by omega
 by_cases h9:9<n
 ·have h9':(9:Int)<(n:Int):=by omega
  go_enter func55,ntmps55
  go_wp2;go_ret;have:decide (n<=9)=false:=by simp;omega
  exact⟨Ag (by simp[Bo,this]),Below.refl _ _⟩
 have h9':¬(9:Int)<(n:Int):=by omega
 go_enter func55,ntmps55
 go_wp2;go_loopw [3,16] (fun l i wr=>∃k:Nat,k<=n/\i= .int .i64 k/\l= .int .i64 (lastOf (fun i=>(T i).id) k)/\Hid (∀j,j<k->Dq T j=true)/\Below w w wr) (fun _ i _=>n-(intOf i).toNat)
 case atStart=>exact⟨0,Nat.zero_le _,rfl,rfl,hid (fun j hj=>by omega),Below.refl _ _⟩
 case round=>
  obtain⟨k,hk,rfl,rfl,HA,hB⟩:=hrel;by_cases hlt:k<n
  ·obtain⟨b,off,rfl,hlt0,hcc⟩:=HT.out.below hB (by omega);obtain⟨⟨q0,q1,q2,q3,q4,q5,q6⟩,ht⟩:=hcc k hlt;have i1:(k:Int)<(n:Int):=(by omega);have b1:Below wr wr (wr.alloc (T k).blk):=(Below.refl _ wr).alloc (Nat.le_refl _) _;have SZ:=hid (VM (T k) _ (ht.below b1));have A0:=Ah.new wr (T k).blk;have B0:=Af hB b1;simp only[Av.val,AI.val,Ac.blk,Ac.val]at q2 q4 q5 SZ A0 b1 B0;clear hcc ht;go_wp2_with fail
   refine SZ.out.mono ?_;rintro e w2 ⟨rfl,hb2⟩;have A2:=A0.below hb2;have x0:=A2.c0 0 rfl;have B2:=Af B0 hb2;clear q0 q1 q2 q3 q4 q5 q6 SZ hb2 A0 B0 b1 hlt0;cases t1:Cn (T k)with
   |false=>
    go_wp2;go_ret;exact⟨Ag (by rw[Bo,Gi hlt (by simp[Dq,t1])];simp),B2⟩
   |true=>
    by_cases t2:(T k).id<=lastOf (fun i=>(T i).id) k
    ·go_wp2;go_ret;exact⟨Ag (by rw[Bo,Gi hlt (WW t1 t2)];simp),B2⟩
    ·have HA2:Hid (∀j,j<k+1->Dq T j=true):=hid (fun j hj=>by
      by_cases e:j=k
      ·subst e;exact VT t1 t2
      ·exact HA.out j (by omega))
     go_wp2;exact⟨⟨k+1,by omega,by go_num,by rw[GJ],HA2,B2⟩,by simp[intOf];omega⟩
  ·go_wp2;go_ret;have e:k=n:=(by omega);subst e;refine⟨Ag ?_,hB⟩;rw[Bo,DK HA.out];simp;omega
theorem N0(a:Option Addr)(n cap:Nat)(O:Nat->Ab)(w:World)(hn:n<=maxLen)(hT:GP w a n O):
 Calls prog 56 #[.slice a n cap] w fun e w'=>e= .returned (.bool (BU n O))/\Below w w w':=by
 unfold maxLen at hn;have HT:=hid hT;clear hT;by_cases h1:n<1
 ·have h1':(n:Int)<1:=by omega
  go_enter func56,ntmps56
  go_wp2;go_ret;have:n=0:=by omega
  exact⟨Ag (by simp[BU,this]),Below.refl _ _⟩
 have h1':¬(n:Int)<1:=by omega
 by_cases h9:271<n
 ·have h9':(271:Int)<(n:Int):=by omega
  go_enter func56,ntmps56
  go_wp2;go_ret;have:decide (n<=271)=false:=by simp;omega
  exact⟨Ag (by simp[BU,this]),Below.refl _ _⟩
 have h9':¬(271:Int)<(n:Int):=by omega
 go_enter func56,ntmps56
 go_wp2;go_loopw [3,17] (fun l i wr=>∃k:Nat,k<=n/\i= .int .i64 k/\l= .int .i64 (lastOf (fun i=>(O i).id) k)/\Hid (∀j,j<k->Fe O j=true)/\Below w w wr) (fun _ i _=>n-(intOf i).toNat)
 case atStart=>exact⟨0,Nat.zero_le _,rfl,rfl,hid (fun j hj=>by omega),Below.refl _ _⟩
 case round=>
  obtain⟨k,hk,rfl,rfl,HA,hB⟩:=hrel;by_cases hlt:k<n
  ·obtain⟨b,off,rfl,hlt0,hcc⟩:=HT.out.below hB (by omega);obtain⟨⟨q0,q1,q2,q3,q4,q5,q6,q7,q8,q9⟩,ht⟩:=hcc k hlt;have i1:(k:Int)<(n:Int):=(by omega);have b1:Below wr wr (wr.alloc (.cells #[.int .i64 (O k).id,.int .i64 (O k).kind,.int .i64 (O k).up,.int .i64 (O k).b1,(O k).c1.val,.string (O k).data,(O k).items.val,(O k).own.val,.int .i64 (O k).b2,(O k).c2.val] 40)):=(Below.refl _ wr).alloc (Nat.le_refl _) _;have SZ:=hid (PY (O k) _ (ht.below b1));have A0:=Ah.new wr (.cells #[.int .i64 (O k).id,.int .i64 (O k).kind,.int .i64 (O k).up,.int .i64 (O k).b1,(O k).c1.val,.string (O k).data,(O k).items.val,(O k).own.val,.int .i64 (O k).b2,(O k).c2.val] 40);have B0:=Af hB b1;simp only[Av.val,AI.val,As.val,Ab.val]at q4 q6 q7 q9 SZ A0 b1 B0;clear hcc ht;go_wp2_with fail
   refine SZ.out.mono ?_;rintro e w2 ⟨rfl,hb2⟩;have A2:=A0.below hb2;have x0:=A2.c0 0 rfl;have B2:=Af B0 hb2;clear q0 q1 q2 q3 q4 q5 q6 q7 q8 q9 SZ hb2 A0 B0 b1 hlt0;cases t1:BZ (O k)with
   |false=>
    go_wp2;go_ret;exact⟨Ag (by rw[BU,Gi hlt (by simp[Fe,t1])];simp),B2⟩
   |true=>
    by_cases t2:(O k).id<=lastOf (fun i=>(O i).id) k
    ·go_wp2;go_ret;exact⟨Ag (by rw[BU,Gi hlt (WX t2)];simp),B2⟩
    ·have HA2:Hid (∀j,j<k+1->Fe O j=true):=hid (fun j hj=>by
      by_cases e:j=k
      ·subst e;exact Vr t1 t2
      ·exact HA.out j (by omega))
     go_wp2;exact⟨⟨k+1,by omega,by go_num,by rw[GJ],HA2,B2⟩,by simp[intOf];omega⟩
  ·have e:k=n:=(by omega);subst e;obtain⟨b,off,rfl,hlt0,hcc⟩:=HT.out.below hB (by omega);obtain⟨⟨q0,q1,q2,q3,q4,q5,q6,q7,q8,q9⟩,ht⟩:=hcc 0 (by omega);simp only[Nat.zero_mul,Nat.add_zero]at q0 q1 q2 q3 q4 q5 q6 q7 q8 q9;have i0:(0:Int)<(k:Int):=(by omega);have OK:Hid (BU k O=Fo (O 0)):=hid (by
    have d1:decide (1<=k)=true:=(by simp;omega);have d2:decide (k<=271)=true:=(by simp;omega);rw[BU,DK HA.out,d1,d2];rfl)
   simp only[Av.val,AI.val,As.val]at q4 q6 q7 q9;clear hcc ht HA;go_wp2;all_goals
    go_ret;refine⟨Ag ?_,hB.alloc hB.size _⟩;rw[OK.out];clear q0 q1 q2 q3 q4 q5 q6 q7 q8 q9;simp_all[Fo]
open Go.Maps
theorem GQ:Keyed prog 2:=int_keyed underlying2
theorem YY(w:World):(zeroValue 2).run prog w= .ok (.int .i64 0) w:=by kernel_rfl
def look(f g:Nat->Int):Nat->Int->Option Int
 |0,_=>none
 |k+1,x=>if f k=x then some (g k)else look f g k x
def Bj(w:World)(b n:Nat)(m:Int->Option Int):Prop:=
 ∃D:DataW Unit,w.ownsMap prog 2 (plainElem prog 2) b n D/\IsMap D/\
  ∀x,Maps.has D (.int .i64 x)=(m x).isSome/\∀v,m x=some v->D.atKey (.int .i64 x) (.lit (.int .i64 0))= .lit (.int .i64 v)
theorem Bj.made(w:World):Bj (w.alloc (.map #[] 0)) w 0 (fun _=>none):=
 ⟨.map [],World.ownsMap_made _ _ _ _,isMap_empty,fun x=>⟨rfl,fun v h=>by cases h⟩⟩
theorem Bj.of_block{w w':World}{b n:Nat}{m:Int->Option Int}(h:Bj w b n m)(e:w'.heap[b]? =w.heap[b]?):Bj w' b n m:=by
 obtain⟨D,⟨es,clock,hb,F,hs,hD⟩,r⟩:=h;exact⟨D,⟨es,clock,e.trans hb,F,hs,hD⟩,r⟩
theorem Bj.setCell{w:World}{b n:Nat}{m:Int->Option Int}(h:Bj w b n m){a:Addr}(ha:b≠a.block)(v:Value):Bj (w.setCell a v) b n m:=h.of_block (blk_setCell_other _ _ _ _ ha)
theorem Bj.lt{w:World}{b n:Nat}{m:Int->Option Int}(h:Bj w b n m):b<w.heap.size:=by
 obtain⟨D,h1,_⟩:=h;exact h1.lt
theorem Bj.alloc{w:World}{b n:Nat}{m:Int->Option Int}(h:Bj w b n m)(o:Obj):Bj (w.alloc o) b n m:=by
 obtain⟨D,h1,h2,h3⟩:=h;exact⟨D,h1.alloc o,h2,h3⟩
def setAt(m:Int->Option Int)(k v:Int)(x:Int):Option Int:=if k=x then some v else m x
theorem Bj.put{D:DataW Unit}{m:Int->Option Int}{k v:Int}(h2:IsMap D)
 (h3:∀x,Maps.has D (.int .i64 x)=(m x).isSome/\∀v,m x=some v->D.atKey (.int .i64 x) (.lit (.int .i64 0))= .lit (.int .i64 v)):
 IsMap (D.put (.int .i64 k) (.lit (.int .i64 v)))/\
 ∀x,Maps.has (D.put (.int .i64 k) (.lit (.int .i64 v))) (.int .i64 x)=(setAt m k v x).isSome/\∀u,setAt m k v x=some u->(D.put (.int .i64 k) (.lit (.int .i64 v))).atKey (.int .i64 x) (.lit (.int .i64 0))= .lit (.int .i64 u):=by
 refine⟨h2.put _ _,fun x=>?_⟩;by_cases e:k=x
 ·subst e;refine⟨?_,fun u hu=>?_⟩
  ·rw[has_put_same h2 (by trivial)];simp[setAt]
  ·simp[setAt]at hu;subst hu;exact atKey_put_same h2 (by trivial) _ _
 ·have hne:(Lit.int .i64 x)≠(Lit.int .i64 k):=by simp;exact fun h=>e h.symm
  refine⟨?_,fun u hu=>?_⟩
  ·rw[has_put_other hne];simp[setAt,e];exact(h3 x).1
  ·simp[setAt,e]at hu;rw[atKey_put_other hne];exact(h3 x).2 u hu
theorem Mh(f g:Nat->Int)(k:Nat):setAt (look f g k) (f k) (g k)=look f g (k+1):=by
 funext x;rfl
theorem BM{w w':World}{b:Nat}(hg:w.grownBy w' (some b)){k o:Nat}(hk:k<w.heap.size)(hne:k≠b):w'.cell? ⟨k,o,none⟩=w.cell? ⟨k,o,none⟩:=
 World.cell?_of_block (w:=w) (hg.block k hk (fun e=>hne (by simpa using e)))
theorem F8{w w':World}{b:Nat}(hg:w.grownBy w' (some b)){k o:Nat}(hk:k<w.heap.size)(hne:k≠b):w'.frozen? ⟨k,o,none⟩=w.frozen? ⟨k,o,none⟩:=
 World.frozen?_of_block (w:=w) (hg.block k hk (fun e=>hne (by simpa using e)))
end Go.Proofs.YtphddbnadcjhgaaGreatDoor
