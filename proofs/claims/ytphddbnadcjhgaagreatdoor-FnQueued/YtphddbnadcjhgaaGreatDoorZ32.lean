import Derived.Test.YtphddbnadcjhgaaGreatDoorZ29
import Derived.Test.YtphddbnadcjhgaaGreatDoorZ30
import Derived.Test.YtphddbnadcjhgaaGreatDoorZ8
import Derived.Test.YtphddbnadcjhgaaGreatDoorZ31
import Derived.Deep.CutBlock
import Derived.Test.YtphddbnadcjhgaaGreatDoorZ0
import Derived.Test.YtphddbnadcjhgaaGreatDoorProg
import Derived.Shelf.SlicesG.Delete
import Derived.Shelf.SlicesG.CompactI
import Derived.Ground.SlgnProg
import Derived.Sort.OwnSortedInts
import Derived.Test.YtphddbnadcjhgaaGreatDoorZ11
import Derived.Test.YtphddbnadcjhgaaGreatDoorZ12
import Derived.Test.YtphddbnadcjhgaaGreatDoorZ4
import Derived.Test.YtphddbnadcjhgaaGreatDoorZ16
set_option maxRecDepth 100000
set_option maxHeartbeats 16000000
namespace Go.Proofs.YtphddbnadcjhgaaGreatDoor
open Go Go.RowKit Go.Deep Go.Maps Go.BigFrame Go.Shelf
def Mp(w:World)(E:Nat->Addr):Prop:=∀i,i<14->i≠3->w.cell? ⟨i,0,none⟩=some (.iface 259 (.pointer (some (E i))))/\i<w.heap.size
theorem Mp.below{w w':World}{E:Nat->Addr}{B:Nat}(h:Mp w E)(hB:14<=B)(hb:Below B w w'):Mp w' E:=fun i h1 h2=>by
 obtain⟨a,b⟩:=h i h1 h2;exact⟨by rw[hb.cell (show i<B by omega)];exact a,Nat.lt_of_lt_of_le b hb.size⟩
def Told(w:World)(B:Nat)(E:Nat->Addr)(v:Value)(c:Int):Prop:=(c=0/\v= .nilIface)∨(c≠0/\∃r i,v= .iface 53 (.pointer (some ⟨r,0,none⟩))/\Ah w r (.cells #[.int .i64 c,.iface 259 (.pointer (some (E i)))] 58)/\i≠0/\i<14/\i≠3/\B<=r)
theorem Gh.setLab{w0 wr:World}{B P:Nat}{s:Al}{g ca q co:Nat}{lt:List Ac}{lo:List Ab}{t:Nat}{m:Value}(h0:Gh w0 B P s g ca q co lt lo t m)(h:Gh wr B P s g ca q co lt lo t m){b:Int}{d:Av}(ht:t<lt.length){X:Ac}(hX:X=lt[t])(hd:d.new w0 wr)(hB:B<=w0.heap.size):
 Gh ((wr.setCell ⟨g,t*7+1,none⟩ (.int .i64 b)).setCell ⟨g,t*7+2,none⟩ (.slice d.a d.n d.k)) B P s g ca q co (lt.set t ⟨X.id,b,d,X.b2,X.c2,X.own,X.made⟩) lo t m/\B<=g/\∃cur,Ah wr g (.cells cur 68):=by
 obtain⟨k1,⟨cur,hc⟩,hg⟩:=h.st.setLab (b:=b) ht hX (hd.low hB);have el:(lt.set t (⟨X.id,b,d,X.b2,X.c2,X.own,X.made⟩:Ac)).length=lt.length:=by simp
 have hn:X.cb.Nodup:=C7 (L:=lt.map Ac.cb) (t:=t) (by simp[ht,hX]) h.ap.c;have hi:X.own.bs.Nodup:=C7 (L:=lt.map fun x=>x.own.bs) (t:=t) (by simp[ht,hX]) h.ap.i;have hx:=h0.st.tn _ (List.getElem_mem ht);rw[<-hX]at hx;have hcb:(d.bs++X.c2.bs).Nodup:=List.perm_append_comm.nodup_iff.2 (Ey (M:=w0.heap.size) hx.2.1.bs.1 hd.bs.1 (fun x hx'=>(hx.2.1.bs.2 x hx').2) (fun x hx'=>(hd.bs.2 x hx').1));refine⟨⟨by rw[el];exact k1,h.ap.setT h0.st ht (x:=⟨X.id,b,d,X.b2,X.c2,X.own,X.made⟩) hcb (fun y hy=>?_) hi (fun y hy=> .inl (by rw[<-hX];exact hy)),by rw[el];exact(h.wk.other (Ne.symm h.setP.1) _).other (Ne.symm h.setP.1) _,h.lp⟩,hg,cur,hc⟩;rcases List.mem_append.1 hy with hy|hy
 ·exact .inr (hd.bs.2 y hy).1
 ·exact .inl (by rw[<-hX];exact List.mem_append.2 (.inr hy))
open Go.Proofs.Tryz
def Tryz.compA_ren:Go.Shelf.Ren:=⟨fun|43=>131|n=>n,fun|22=>38|23=>2|3=>3|4=>4|0=>0|n=>n,fun|n=>n⟩
theorem Tryz.compA:Go.Proofs.SlLaysN.n43 prog Tryz.compA_ren:={
 mixed:=by kernel_rfl
 f43:=⟨Tryz.f131.name,by decide,func131.trans (congrArg some (by kernel_rfl))⟩
 t0:=underlying0
 a0:=isAgg0
 z0:=sizeOf0
 v0:=zeroValue0
 t3:=underlying3
 a3:=isAgg3
 z3:=sizeOf3
 v3:=zeroValue3
 t4:=underlying4
 a4:=isAgg4
 z4:=sizeOf4
 v4:=zeroValue4
 t22:=underlying38
 a22:=isAgg38
 z22:=sizeOf38
 v22:=zeroValue38
 t23:=underlying2
 a23:=isAgg2
 z23:=sizeOf2
 v23:=zeroValue2
 i23:=by kernel_rfl}

open Go.Sort
theorem Wk{w:World}{g n:Nat}{cur:Array Value}{e:TypeId}{fr:Nat×Nat}(d:Array Int)(hb:w.heap[g]? =some (.cells cur e fr)):
 (putRow (Value.int .i64) (Sort.ahead w n) g 0 d).heap[g]? =some (.cells (putCells (Value.int .i64) 0 d cur) e fr):=by
 simp[putRow,mapBlock,Sort.ahead,Array.getElem?_modify,hb,onCells]
theorem VY{w:World}{g n:Nat}(d:Array Int):w.grownBy (putRow (Value.int .i64) (Sort.ahead w n) g 0 d) (some g):=by
 refine⟨rfl,rfl,rfl,by simp[Sort.ahead],fun k hk hne=>?_⟩;have:g≠k:=fun e=>hne (by rw[e]);simp[putRow,mapBlock,Sort.ahead,Array.getElem?_modify,this]
theorem Ua:∀{L:List (List Nat)},L.flatten.Nodup->∀{i j:Nat}{a b:List Nat}{x:Nat},L[i]? =some a->L[j]? =some b->i≠j->x∈a->x∈b->False
 |[],_,i,_,_,_,_,h,_,_,_,_=>by simp at h
 |l::r,hn,i,j,a,b,x,hi,hj,ne,ha,hb=>by
  rw[List.flatten_cons,List.nodup_append]at hn;obtain⟨_,h2,h3⟩:=hn;have up:∀{k:Nat}{c:List Nat},r[k]? =some c->∀y∈c,y∈r.flatten:=fun{k c} hk y hy=>List.mem_flatten.2 ⟨c,List.mem_of_getElem? hk,hy⟩;match i,j with
  |0,0=>exact ne rfl
  |0,j+1=>
   simp at hi;subst hi;simp at hj;exact h3 x ha x (up hj x hb) rfl
  |i+1,0=>
   simp at hj;subst hj;simp at hi;exact h3 x hb x (up hi x ha) rfl
  |i+1,j+1=>
   simp at hi hj;exact Ua h2 hi hj (by omega) ha hb
section
variable {w w':World}{B b m:Nat}{F:Nat->Value}
end

theorem Of(c:AI)(w:World)(hc:c.at w)(hn:c.n<=1048576):
 Calls prog 60 #[.slice c.a c.n c.k] w fun e w'=>∃(a:Option Addr) (k:Nat),e= .returned (.slice a c.n k)/\Ax w' w (.slice a c.n k) ((List.range c.n).map c.h)/\Below w w w':=by
 obtain⟨a,n,cap,f⟩:=c;obtain⟨hm,hc⟩:=hc;simp only at hm hc hn ⊢;have L0:=hc.intL;have el:((List.range n).map f).length=n:=by simp
 have L:Hid (Bn w a n (((List.range n).map f).map (Value.int .i64))):=hid (by unfold Di at L0;rw[el]at L0;exact L0);clear hc L0;go_enter func60,ntmps60
 go_wp2_with(refine Bl underlying38 Tryz.info2 rfl (by omega) _ rfl _ _ rfl w (.slice none 0 0) 0 [] rfl (World.ownsRow_nil _ _ _ _) a n cap (((List.range n).map f).map (Value.int .i64)) rfl (by simp) L (fun u hu=>by obtain⟨y,_,rfl⟩:=List.mem_map.1 hu;rfl) (by omega) (by omega) (Nat.le_refl _) ?_;intro a3 c3 w3 o3 g3;rw[Nat.zero_add,List.nil_append]at o3;rw[Nat.zero_add])
 go_ret;exact⟨a3,c3,rfl,by unfold Ax;rw[el];exact o3,below_grown g3 (Nat.le_refl _) (fun j hj=>by cases hj)⟩
theorem Rf(l:List Int):(Lib.compact l).length<=l.length:=by
 unfold Lib.compact Lib.compactUpTo;rw[List.length_map];exact Nat.le_trans (List.length_filter_le _ _) (by simp)
theorem QX(B c:Nat)(a:Option Addr)(l:List Int)(w:World)(h:Ax w B (.slice a l.length c) l)(hl:l.length<=100000):
 Calls prog 131 #[.slice a l.length c] w fun e w'=>e= .returned (.slice a (Lib.compact l).length c)/\Ax w' B (.slice a (Lib.compact l).length c) (Lib.compact l)/\w.grownBy w' (Value.slice a l.length c).ownBlock:=by
 rcases h.2 with⟨hv,hn⟩|⟨g,cap,cur,hv,hB,hb,h1,h2,h3,h4⟩
 ·have e0:l=[]:=List.eq_nil_of_length_eq_zero hn;subst e0;have hh:Calls prog 131 #[.slice a 0 c] w _:=AnyG.slices_Compact_int_empty Tryz.compA a c w;refine hh.mono ?_;rintro e w' ⟨rfl,rfl⟩;have e0:Lib.compact ([]:List Int)=[]:=rfl;rw[e0];exact⟨rfl,h,⟨rfl,rfl,rfl,Nat.le_refl _,fun _ _ _=>rfl⟩⟩
 ·simp only[Value.slice.injEq]at hv;obtain⟨rfl,_,rfl⟩:=hv;have hh:Calls prog 131 #[.slice (some ⟨g,0,none⟩) l.length c] w _:=AnyG.slices_Compact_int Tryz.compA g 0 c l w (holds_of_blockI hb (by simpa using h4)) (by omega) h1;refine hh.mono ?_;rintro e w' ⟨rfl,q,rfl⟩;have cl:=Rf l;have ll:(Lib.compact l++List.replicate (l.length-(Lib.compact l).length) 0).length=l.length:=by simp;omega
  refine⟨rfl,⟨by simp,.inr ⟨g,c,_,rfl,hB,Wk _ hb,by omega,h2,by simp[putCells,h3],?_⟩⟩,VY _⟩;have t:=take_putCellsI cur (Lib.compact l++List.replicate (l.length-(Lib.compact l).length) 0) (by rw[ll];omega);rw[ll]at t;have t2:=congrArg (List.take (Lib.compact l).length) t;rw[List.take_take,Nat.min_eq_left cl,List.map_append,List.take_append_of_le_length (by simp)]at t2;rw[Nat.mul_one];exact t2.trans (List.take_of_length_le (by simp))
theorem P6(c d:AI)(w:World)(hc:c.at w)(hd:d.at w)(hn:c.n<=1000)(hm:d.n<=1000):
 Calls prog 104 #[.slice c.a c.n c.k,.slice d.a d.n d.k] w fun e w'=>∃(a:Option Addr) (k:Nat) (L:List Int),L=Lib.compact (Ct ((List.range c.n).map c.h++(List.range d.n).map d.h))/\e= .returned (.slice a L.length k)/\Ax w' w (.slice a L.length k) L/\Below w w w':=by
 have HD:=hid hd;have CC:=hid (Of c w hc (by omega));clear hc hd;go_enter func104,ntmps104
 go_wp2_with fail
 refine CC.out.mono ?_;rintro e w1 ⟨a1,k1,rfl,o1,b1⟩;have el:((List.range d.n).map d.h).length=d.n:=by simp
 have el1:((List.range c.n).map c.h).length=c.n:=by simp
 have L0:=(HD.out.below b1).2.intL;have L:Hid (Bn w1 d.a d.n (((List.range d.n).map d.h).map (Value.int .i64))):=hid (by unfold Di at L0;rw[el]at L0;exact L0);have O1:=hid o1;have B1:=hid b1;clear L0 o1 b1;have OR:Hid (w1.ownsRow w 2 1 (.slice a1 c.n k1) c.n (((List.range c.n).map c.h).map (Value.int .i64))):=hid (by have:=O1.out;unfold Ax at this;rw[el1]at this;exact this);have s1:=B1.out.size;go_wp2_with(refine Bl underlying38 Tryz.info2 rfl (by omega) _ rfl _ _ rfl w (.slice a1 c.n k1) c.n (((List.range c.n).map c.h).map (Value.int .i64)) rfl OR d.a d.n d.k (((List.range d.n).map d.h).map (Value.int .i64)) rfl (by simp) L (fun u hu=>by obtain⟨y,_,rfl⟩:=List.mem_map.1 hu;rfl) (by omega) (by omega) s1 ?_;intro a3 c3 w3 o3 g3;rw[<-List.map_append]at o3)
 obtain⟨S,hS⟩:∃S,S=(List.range c.n).map c.h++(List.range d.n).map d.h:=⟨_,rfl⟩;rw[<-hS]at o3;have LS:Hid (S.length=c.n+d.n):=hid (by rw[hS];simp);have HS:=hid hS;have O3:Hid (Ax w3 w (.slice a3 (c.n+d.n) c3) S):=hid (by unfold Ax;rw[LS.out];exact o3);have B3:Hid (Below w w w3):=hid (B1.out.trans (below_grown g3 B1.out.size (fun j e=>(World.ownsRow.lt OR j e).1)));have SO:=hid (Rr w _ S w3 O3 (by rw[LS.out];omega));clear o3 g3 hS L OR O1 el el1 s1 CC HD B1;refine SO.out.mono ?_;rintro e w4 ⟨rfl,o4,g4⟩;have B4:Hid (Below w w w4):=hid (B3.out.trans (below_grown g4 B3.out.size (fun j e=>(World.ownsRow.lt O3 j e).1)));have E4:Hid (c.n+d.n=(Ct S).length):=hid (by rw[Gd,LS.out]);have O4:Hid (Ax w4 w (.slice a3 (Ct S).length c3) (Ct S)):=hid (by rw[<-E4.out];exact o4);have CP:Hid (Calls prog 131 #[.slice a3 (c.n+d.n) c3] w4 _):=hid (by rw[E4.out];exact QX w c3 a3 (Ct S) w4 O4 (by rw[<-E4.out];omega));clear o4 g4 SO O3;go_wp2_with fail
 refine CP.out.mono ?_;rintro e w5 ⟨rfl,o5,g5⟩;have O5:=hid o5;have B5:Hid (Below w w w5):=hid (B4.out.trans (below_grown g5 B4.out.size (fun j e=>(World.ownsRow.lt O4 j e).1)));clear o5 g5;go_wp2;go_ret;exact⟨a3,c3,_,by rw[HS.out],rfl,O5,B5⟩

theorem Ax.new{w:World}{B k:Nat}{a:Option Addr}{l:List Int}(h:Ax w B (.slice a l.length k) l)(hm:l.length<=maxLen):(⟨a,l.length,k,AM l⟩:AI).new B w:=
 ⟨⟨hm,(Ax.lies h).ints⟩,fun h0=>by have:=CM h h0;simpa using this⟩
theorem Gh.setOwn{w0 wr:World}{B P:Nat}{s:Al}{g ca q co:Nat}{lt:List Ac}{lo:List Ab}{t:Nat}{m:Value}(h0:Gh w0 B P s g ca q co lt lo t m)(h:Gh wr B P s g ca q co lt lo t m){d:AI}(ht:t<lt.length){X:Ac}(hX:X=lt[t])(hd:d.new w0 wr)(hdc:d.n<=d.k/\d.k<=maxLen)(hB:B<=w0.heap.size):
 Gh (wr.setCell ⟨g,t*7+5,none⟩ (.slice d.a d.n d.k)) B P s g ca q co (lt.set t ⟨X.id,X.b1,X.c1,X.b2,X.c2,d,X.made⟩) lo t m/\B<=g/\∃cur,Ah wr g (.cells cur 68):=by
 obtain⟨k1,⟨cur,hc⟩,hg⟩:=h.st.setOwn ht hX (hd.low hB) hdc;have el:(lt.set t (⟨X.id,X.b1,X.c1,X.b2,X.c2,d,X.made⟩:Ac)).length=lt.length:=by simp
 have hn:X.cb.Nodup:=C7 (L:=lt.map Ac.cb) (t:=t) (by simp[ht,hX]) h.ap.c;exact⟨⟨by rw[el];exact k1,h.ap.setT h0.st ht (x:=⟨X.id,X.b1,X.c1,X.b2,X.c2,d,X.made⟩) hn (fun b hb=> .inl (by rw[<-hX];exact hb)) hd.bs.1 (fun y hy=> .inr (hd.bs.2 y hy).1),by rw[el];exact h.wk.other (Ne.symm h.setP.1) _,h.lp⟩,hg,cur,hc⟩
def FH(kind:Int):Nat:=if kind=1 then 177 else if kind=2 then 179 else if kind=3 then 181 else 183
theorem Lc(w:World)(B P:Nat)(s:Al)(g ca q co:Nat)(lt:List Ac)(lo:List Ab)(t c C n:Nat)(ids:Nat->Int)(nb:Nat->Nat)(kv:Nat->Value)(K:Nat->List Int)(h:Gh w B P s g ca q co lt lo t (.map (some c)))(hn:Dz w C c n ids q 0 nb kv K)(hl:n<=lo.length)(hd:∀x∈lo,x.data.size<=maxLen)(id:Int)(hi:(Lit.int .i64 id).wf=true):
 Calls prog 119 #[.pointer (some ⟨P,0,none⟩),.int .i64 id] w fun e w'=>((Bg ids n id=none/\e= .returned .nilIface)∨∃i,Bg ids n id=some i/\e= .returned (.iface (FH (Aa lo i).kind) (.agg #[.pointer (some ⟨q,i*10,none⟩)])))/\Below w w w':=by
 obtain⟨_,_,_,_,c13⟩:=h.wk.work;have LK:=hn.map.look hi;cases hf:Bg ids n id with
 |none=>
  rw[hf]at LK;simp only[Option.map_none]at LK;go_enter func119,ntmps119
  go_wp2;go_ret;exact⟨.inl ⟨by first|trivial|rfl,rfl⟩,Below.refl _ _⟩
 |some i=>
  rw[hf]at LK;simp only[Option.map_some]at LK;obtain⟨hin,_⟩:=AE hf;obtain⟨z0,z1⟩:=(hn.blk i hin).two;rw[Nat.zero_add]at z0;obtain⟨CW,gl⟩:=h.st.cell10 (t:=i) (by omega) hd;have eo:lo[i]'(by omega)=Aa lo i:=by simp[Aa,show i<lo.length by omega]
  rw[eo]at CW;have nl:nb i<w.heap.size:=(hn.blk i hin).lt;have k1:w.cell? ⟨q,i*10+1,none⟩=some (.int .i64 (Aa lo i).kind):=CW.c1;have n1:No (.cells #[.pointer (some ⟨q,i*10,none⟩)] 175):=⟨⟩;have e0:(w.alloc n1).cell? ⟨nb i,0,none⟩=some (.pointer (some ⟨q,i*10,none⟩)):=(((hn.blk i hin).alloc _).two.1).trans (by rw[Nat.zero_add]);have e1:(w.alloc n1).cell? ⟨q,i*10+1,none⟩=some (.int .i64 (Aa lo i).kind):=(CW.below gl ((Below.refl _ w).alloc (Nat.le_refl _) _)).c1;have BL:=hid ((Below.refl w w).alloc (Nat.le_refl _) n1);clear CW eo;obtain⟨kd,hk⟩:∃kd,(Aa lo i).kind=kd:=⟨_,rfl⟩;rw[hk]at k1 e1;have HK:=hid hk;clear hk;by_cases h1:kd=1
  ·subst h1;go_enter func119,ntmps119
   go_wp2;go_ret;exact⟨.inr ⟨i,rfl,by rw[HK.out];rfl⟩,BL⟩
  ·by_cases h2:kd=2
   ·subst h2;go_enter func119,ntmps119
    go_wp2;go_ret;exact⟨.inr ⟨i,rfl,by rw[HK.out];rfl⟩,BL⟩
   ·by_cases h3:kd=3
    ·subst h3;go_enter func119,ntmps119
     go_wp2;go_ret;exact⟨.inr ⟨i,rfl,by rw[HK.out];rfl⟩,BL⟩
    ·have ty:FH kd=183:=(by unfold FH;rw[if_neg h1,if_neg h2,if_neg h3]);go_enter func119,ntmps119
     go_wp2;go_ret;exact⟨.inr ⟨i,rfl,by rw[HK.out,ty];rfl⟩,BL⟩
theorem UT(E:Nat->Addr)(w:World)(B P:Nat)(s:Al)(g ca q co:Nat)(lt:List Ac)(lo:List Ab)(t:Nat)(m:Value)(h:Gh w B P s g ca q co lt lo t m)(he:Mp w E)(h14:14<=B)(hB:B<=w.heap.size)(ht:t<lt.length)(X:Ac)(hX:X=lt[t])(u:Nat)(hu:u<lo.length)(O:Ab)(hO:O=lo[u])(hd:∀x∈lo,x.data.size<=maxLen)(fl:Bool)
 (FL:∀W,Below w w W->Calls prog 116 #[.agg #[X.b1,.slice X.c1.a X.c1.n X.c1.k],.slice X.own.a X.own.n X.own.k,.agg #[O.b2,.slice O.c2.a O.c2.n O.c2.k]] W fun e w'=>e= .returned (.bool fl)/\Below W W w')(hn:X.own.n<=1000)(hm:O.own.n<=1000)(L:List Int)(hL:L=Lib.compact (Ct ((List.range X.own.n).map X.own.h++(List.range O.own.n).map O.own.h))):
 Calls prog 125 #[.pointer (some ⟨P,0,none⟩),.agg #[.pointer (some ⟨q,u*10,none⟩)]] w fun e w'=>∃(v:Value) (x:Ac) (c:Int),e= .returned v/\Gh w' B P s g ca q co (lt.set t x) lo t m/\Below B w w'/\Told w' B E v c/\((c=4/\fl=false/\x=X)∨(c=5/\fl=true/\10<L.length/\x=X)∨(c=0/\fl=true/\¬10<L.length/\∃(a:Option Addr) (cc:Nat),x=⟨X.id,X.b1,X.c1,X.b2,X.c2,⟨a,L.length,cc,AM L⟩,X.made⟩)):=by
 obtain⟨CW,gl⟩:=h.st.cell7 ht;rw[<-hX]at CW;obtain⟨CO,ql⟩:=h.st.cell10 hu hd;rw[<-hO]at CO;have XN:=hid (show X.new B w by rw[hX];exact h.st.tn _ (List.getElem_mem ht));have ON:=hid (show O.new B w by rw[hO];exact h.st.on _ (List.getElem_mem hu));have HW:=hid h;have HE:=hid he;have HX:=hid hX;have HFL:=hid FL;have HL:=hid hL;have n1:Nw (w.alloc (.cells #[.pointer (some ⟨q,u*10,none⟩)] 183)):=⟨⟩;have b0:Below w w n1:=(Below.refl _ w).alloc (Nat.le_refl _) _;have B0:=hid b0;have n5:Nv (.pointer (some ⟨q,u*10,none⟩)):=⟨⟩;have c0:(n1:World).cell? ⟨w,0,none⟩=some (.pointer (some ⟨q,u*10,none⟩)):=by go_simp
 have BX:Hid (∀W,Below (n1:World).heap.size n1 W->Ah W P (.cells (LG s g lt.length ca q lo.length co t m) 89)/\F6 W g (t*7) X/\Cz W q (u*10) O/\W.cell? ⟨w,0,none⟩=some (.pointer (some ⟨q,u*10,none⟩))):=hid (fun W hW=>⟨(HW.out.wk.below B0).below hW,(CW.below gl B0).below (Nat.lt_of_lt_of_le gl B0.out.size) hW,(CO.below ql B0).below (Nat.lt_of_lt_of_le ql B0.out.size) hW,(hW.cell (p:=⟨w,0,none⟩) (by simp)).trans c0⟩);have EF:Hid (∀args w,(callFunc 116 args).run prog w= .ok (.enter 116 args) w):=hid (enters_of func116 (by kernel_rfl) rfl);have ET:Hid (∀args w,(callFunc 104 args).run prog w= .ok (.enter 104 args) w):=hid (enters_of func104 (by kernel_rfl) rfl);have D0:=hid (Below.refl (n1:World).heap.size n1).drew;have n7:Na #[X.b1,.slice X.c1.a X.c1.n X.c1.k]:=⟨⟩;have n8:Na #[O.b2,.slice O.c2.a O.c2.n O.c2.k]:=⟨⟩;have P1:Hid (Calls prog 116 #[.agg n7,.slice X.own.a X.own.n X.own.k,.agg n8] (n1:World).drew fun e w'=>∃v,e= .returned v/\(v= .bool fl/\Below (n1:World).drew.heap.size (n1:World).drew w')):=hid ((HFL _ (Af B0 D0)).mono fun _ _ h=>⟨_,h.1,rfl,h.2⟩);clear h he hX FL CW CO hO c0 b0 hL hd;go_enter func125,ntmps125
 go_upto_region 1 with fail
 refine An 22 (fun W=>Below (n1:World).heap.size n1 W) (by kernel_rfl) ?_;have n3:Nv (.pointer (some ⟨P,0,none⟩)):=⟨⟩;refine tq 0 6 n3 D0 ?_;simp only[ap,List.set];refine tq 1 7 n3 D0 ?_;simp only[ap,List.set];have n6:Nv (.pointer (some ⟨P,12,none⟩)):=⟨⟩;refine tq 2 8 n6 D0 ?_;simp only[ap,List.set];have n2:Nv (.pointer (some ⟨g,t*7,none⟩)):=⟨⟩;refine tq 3 9 n2 D0 ?_ (hy:=fun W h=>by obtain⟨⟨k0,k1,k2,k3,k4,k5,k6,k7,k8,k9⟩,k10,k11,k12,k13⟩:=(BX W h).1.work;go_simp);simp only[ap,List.set];refine tq 4 10 n2 D0 ?_;simp only[ap,List.set];refine tq 5 11 (.pointer (some ⟨g,t*7+1,none⟩)) D0 ?_;simp only[ap,List.set];refine tq 6 12 (.agg n7) D0 ?_ (hy:=fun W h=>by have C:=(BX W h).2.1;have y1:W.cell? ⟨g,t*7+1,none⟩=some (.int .i64 X.b1):=C.c1;have y2:W.cell? ⟨g,t*7+1+1,none⟩=some (.slice X.c1.a X.c1.n X.c1.k):=C.c2;go_simp);simp only[ap,List.set];refine tq 7 13 n3 D0 ?_;simp only[ap,List.set];refine tq 8 14 n3 D0 ?_;simp only[ap,List.set];refine tq 9 15 n6 D0 ?_;simp only[ap,List.set];refine tq 10 16 n2 D0 ?_ (hy:=fun W h=>by obtain⟨⟨k0,k1,k2,k3,k4,k5,k6,k7,k8,k9⟩,k10,k11,k12,k13⟩:=(BX W h).1.work;go_simp);simp only[ap,List.set];refine tq 11 17 n2 D0 ?_;simp only[ap,List.set];have n9:Nv (.pointer (some ⟨g,t*7+5,none⟩)):=⟨⟩;refine tq 12 18 n9 D0 ?_;simp only[ap,List.set];refine tq 13 19 (.slice X.own.a X.own.n X.own.k) D0 ?_ (hy:=fun W h=>by have C:=(BX W h).2.1;have y5:W.cell? ⟨g,t*7+5,none⟩=some (.slice X.own.a X.own.n X.own.k):=C.c5;go_simp);simp only[ap,List.set];have n4:Nv (.pointer (some ⟨w,0,none⟩)):=⟨⟩;refine tq 14 20 n4 D0 ?_;simp only[ap,List.set];refine tq 15 21 n4 D0 ?_;simp only[ap,List.set];refine tq 16 22 n5 D0 ?_ (hy:=fun W h=>by have y:=(BX W h).2.2.2;go_simp);simp only[ap,List.set];refine tq 17 23 n5 D0 ?_;simp only[ap,List.set];refine tq 18 24 (.pointer (some ⟨q,u*10+8,none⟩)) D0 ?_;simp only[ap,List.set];refine tq 19 25 (.agg n8) D0 ?_ (hy:=fun W h=>by have C:=(BX W h).2.2.1;have y1:W.cell? ⟨q,u*10+8,none⟩=some (.int .i64 O.b2):=C.c8;have y2:W.cell? ⟨q,u*10+8+1,none⟩=some (.slice O.c2.a O.c2.n O.c2.k):=C.c9;go_simp);simp only[ap,List.set];refine Ae (i:=20) (by kernel_rfl) rfl ?_;intro K hK;refine DV (by rfl) 116 _ _ _ _ (by rfl) EF _ _ _ (by rfl) (by rfl) (by rfl) (some 26) (by rfl) _ P1 ?_;rintro v w1 ⟨rfl,b1⟩;have V1:=hid (Af D0 b1);refine hK _ _ (fun _=>V1) ?_;clear hK K b1;simp only[ap,List.set];refine tq 21 27 (.bool (!fl)) V1 ?_;simp only[ap,List.set];refine Ak (by kernel_rfl) ?_ _;have A1:=hid (Af B0 V1);have H1:=hid (HW.out.below A1);cases fl with
 |false=>
  have e9:=(HE.out.below h14 (A1.out.mono hB) 9 (by omega) (by omega)).1;go_wp2_with fail
  refine(DZ 259 (.pointer (some (E 9))) w1).mono ?_;rintro e w2 ⟨rfl,rfl⟩;go_wp2;go_ret;have b2:Below w1 w1 (w1.alloc (.cells #[.int .i64 4,.iface 259 (.pointer (some (E 9)))] 58)):=(Below.refl _ w1).alloc (Nat.le_refl _) _;refine⟨_,rfl,X,by rw[HX.out,Gn];exact H1.out.below b2,(Af A1 b2).mono hB,4,.inr ⟨by decide,_,9,rfl,Ah.new w1 _,by decide,by decide,by decide,Nat.le_trans hB A1.out.size⟩,⟨rfl,rfl⟩⟩
 |true=>
  go_upto_region 3 with fail
  have D2:=hid V1.out.drew;have A2:=hid (Af B0 D2);have H2:=hid (HW.out.below A2);have P2:Hid (Calls prog 104 #[.slice X.own.a X.own.n X.own.k,.slice O.own.a O.own.n O.own.k] w1.drew fun e w'=>∃v,e= .returned v/\∃(a:Option Addr) (k:Nat),v= .slice a L.length k/\Ax w' w1.drew.heap.size (.slice a L.length k) L/\Below w1.drew.heap.size w1.drew w'):=hid ((P6 X.own O.own w1.drew (XN.out.2.2.1.below A2) (ON.out.2.2.1.1.below A2) hn hm).mono fun e w' hh=>by
   obtain⟨a,k,L',h1,rfl,h3,h4⟩:=hh;rw[<-HL.out]at h1;subst h1;exact⟨_,rfl,a,k,rfl,h3,h4⟩)
  refine An 15 (fun W=>Below (n1:World).heap.size n1 W) (by kernel_rfl) ?_;refine tq 0 30 n3 D2 ?_;simp only[ap,List.set];refine tq 1 31 n3 D2 ?_;simp only[ap,List.set];refine tq 2 32 n6 D2 ?_;simp only[ap,List.set];refine tq 3 33 n2 D2 ?_ (hy:=fun W h=>by obtain⟨⟨k0,k1,k2,k3,k4,k5,k6,k7,k8,k9⟩,k10,k11,k12,k13⟩:=(BX W h).1.work;go_simp);simp only[ap,List.set];refine tq 4 34 n2 D2 ?_;simp only[ap,List.set];refine tq 5 35 n9 D2 ?_;simp only[ap,List.set];refine tq 6 36 (.slice X.own.a X.own.n X.own.k) D2 ?_ (hy:=fun W h=>by have C:=(BX W h).2.1;have y5:W.cell? ⟨g,t*7+5,none⟩=some (.slice X.own.a X.own.n X.own.k):=C.c5;go_simp);simp only[ap,List.set];refine tq 7 37 n4 D2 ?_;simp only[ap,List.set];refine tq 8 38 n4 D2 ?_;simp only[ap,List.set];refine tq 9 39 n5 D2 ?_ (hy:=fun W h=>by have y:=(BX W h).2.2.2;go_simp);simp only[ap,List.set];refine tq 10 40 n5 D2 ?_;simp only[ap,List.set];refine tq 11 41 (.pointer (some ⟨q,u*10+7,none⟩)) D2 ?_;simp only[ap,List.set];refine tq 12 42 (.slice O.own.a O.own.n O.own.k) D2 ?_ (hy:=fun W h=>by have C:=(BX W h).2.2.1;have y5:W.cell? ⟨q,u*10+7,none⟩=some (.slice O.own.a O.own.n O.own.k):=C.c7;go_simp);simp only[ap,List.set];refine Ae (i:=13) (by kernel_rfl) rfl ?_;intro K hK;refine AR (by rfl) 104 _ _ _ (by rfl) ET _ _ (by rfl) (by rfl) (some 43) (by rfl) _ P2 ?_;rintro v w3 ⟨a,k,rfl,o3,b3⟩;have V3:=hid (Af D2 b3);refine hK _ _ (fun _=>V3) ?_;clear hK K;simp only[ap,List.set];refine tq 14 5 (.slice a L.length k) V3 ?_;simp only[ap,List.set];refine Ak (by kernel_rfl) ?_ _;have A3:=hid (Af B0 V3);have H3:=hid (HW.out.below A3);have sz:B<=w1.drew.heap.size:=Nat.le_trans hB A2.out.size;by_cases hl:10<L.length
  ·have i1:(10:Int)<(L.length:Int):=(by omega);have e5:=(HE.out.below h14 (A3.out.mono hB) 5 (by omega) (by omega)).1;have LH:=hid hl;clear o3 b3 hl;go_wp2_with fail
   refine(DY 5 259 (.pointer (some (E 5))) w3).mono ?_;rintro e w2 ⟨rfl,rfl⟩;go_wp2;go_ret;have b2:Below w3 w3 (w3.alloc (.cells #[.int .i64 5,.iface 259 (.pointer (some (E 5)))] 58)):=(Below.refl _ w3).alloc (Nat.le_refl _) _;refine⟨_,rfl,X,by rw[HX.out,Gn];exact H3.out.below b2,(Af A3 b2).mono hB,5,.inr ⟨by decide,_,5,rfl,Ah.new w3 _,by decide,by decide,by decide,Nat.le_trans hB A3.out.size⟩,.inl ⟨rfl,LH,rfl⟩⟩
  ·have i1:¬(10:Int)<(L.length:Int):=(by omega);have LH:=hid hl;have cap:=Ep o3;have dn:=o3.new (Nat.le_trans cap.1 cap.2);obtain⟨S4,hBg,cur,hcu⟩:=H2.out.setOwn H3 (d:=⟨a,L.length,k,AM L⟩) ht HX dn cap sz;have S4':=hid S4;have gf:=hcu.warm;obtain⟨⟨k0,k1,k2,k3,k4,k5,k6,k7,k8,k9⟩,k10,k11,k12,k13⟩:=H3.out.wk.work;have c5:w3.cell? ⟨g,t*7+5,none⟩=some (.slice X.own.a X.own.n X.own.k):=(BX _ V3).2.1.c5;clear o3 b3 hl S4 dn cap;go_wp2;go_ret;exact⟨_,rfl,_,S4',(A3.out.mono hB).setCell hBg _,0,.inl ⟨rfl,rfl⟩,.inr ⟨rfl,Nat.not_lt.1 LH,a,k,rfl⟩⟩
theorem Gh.setQ{wr:World}{B P:Nat}{s:Al}{g ca q co:Nat}{lt:List Ac}{lo:List Ab}{t:Nat}{m:Value}(h:Gh wr B P s g ca q co lt lo t m):P≠q:=fun e=>by
 have ho:=h.st.o;rcases ho.2 with⟨hv,_⟩|⟨g',cap,cur,hv,_,hgg,_⟩
 ·cases hv
 ·cases hv;have hw:=h.wk;unfold Ah at hw;rw[e,hgg]at hw;simp at hw
theorem Gh.setData{wr:World}{B P:Nat}{s:Al}{g ca q co:Nat}{lt:List Ac}{lo:List Ab}{t:Nat}{m:Value}(h:Gh wr B P s g ca q co lt lo t m){d:ByteArray}{u:Nat}(hu:u<lo.length){O:Ab}(hO:O=lo[u]):
 Gh (wr.setCell ⟨q,u*10+5,none⟩ (.string d)) B P s g ca q co lt (lo.set u ⟨O.id,O.kind,O.up,O.b1,O.c1,d,O.items,O.own,O.b2,O.c2⟩) t m/\B<=q/\∃cur,Ah wr q (.cells cur 40):=by
 obtain⟨k1,⟨cur,hc⟩,hg⟩:=h.st.setData (d:=d) hu hO;have el:(lo.set u (⟨O.id,O.kind,O.up,O.b1,O.c1,d,O.items,O.own,O.b2,O.c2⟩:Ab)).length=lo.length:=by simp
 have hn:O.cb.Nodup:=C7 (L:=lo.map Ab.cb) (S:=(lt.map Ac.cb).flatten) (t:=u) (by simp[hu,hO]) (List.perm_append_comm.nodup_iff.2 h.ap.c);have hi:O.own.bs.Nodup:=C7 (L:=lo.map fun x=>x.own.bs) (S:=(lt.map fun x=>x.own.bs).flatten) (t:=u) (by simp[hu,hO]) (List.perm_append_comm.nodup_iff.2 h.ap.i);have hs:O.items.bs.Nodup:=C7 (L:=lo.map fun x=>x.items.bs) (S:=[]) (t:=u) (by simp[hu,hO]) (by rw[List.append_nil];exact h.ap.s);exact⟨⟨by rw[el];exact k1,h.ap.setO h.st hu (x:=⟨O.id,O.kind,O.up,O.b1,O.c1,d,O.items,O.own,O.b2,O.c2⟩) hn (fun b hb=> .inl (by rw[<-hO];exact hb)) hi (fun b hb=> .inl (by rw[<-hO];exact hb)) hs (fun b hb=> .inl (by rw[<-hO];exact hb)),by rw[el];exact h.wk.other (Ne.symm h.setQ) _,h.lp⟩,hg,cur,hc⟩
theorem Ka(w:World)(B P:Nat)(s:Al)(g ca q co:Nat)(lt:List Ac)(lo:List Ab)(t:Nat)(m:Value)(h:Gh w B P s g ca q co lt lo t m)(hB:B<=w.heap.size)(u:Nat)(hu:u<lo.length)(O:Ab)(hO:O=lo[u])(hd:∀x∈lo,x.data.size<=maxLen)(hk:s.kind=6):
 Calls prog 122 #[.pointer (some ⟨P,0,none⟩),.agg #[.pointer (some ⟨q,u*10,none⟩)]] w fun e w'=>e= .returned (.tuple #[.string ⟨#[]⟩,.nilIface])/\Gh w' B P s g ca q co lt (lo.set u ⟨O.id,O.kind,O.up,O.b1,O.c1,s.data,O.items,O.own,O.b2,O.c2⟩) t m/\Below B w w':=by
 obtain⟨CO,ql⟩:=h.st.cell10 hu hd;rw[<-hO]at CO;have n1:Nw (w.alloc (.cells #[.pointer (some ⟨q,u*10,none⟩)] 177)):=⟨⟩;have b0:Below w w n1:=(Below.refl _ w).alloc (Nat.le_refl _) _;have c0:(n1:World).cell? ⟨w,0,none⟩=some (.pointer (some ⟨q,u*10,none⟩)):=by go_simp
 obtain⟨⟨k0,k1,k2,k3,k4,k5,k6,k7,k8,k9⟩,k10,k11,k12,k13⟩:=(h.wk.below b0).work;have y5:(n1:World).cell? ⟨q,u*10+5,none⟩=some (.string O.data):=(CO.below ql b0).c5;have HA:=hid (h.below b0);have B0:=hid b0;have HO:=hid hO;rw[hk]at k1;have z0:(n1:World).drew.cell? ⟨w,0,none⟩=some (.pointer (some ⟨q,u*10,none⟩)):=c0;have z5:(n1:World).drew.cell? ⟨q,u*10+5,none⟩=some (.string O.data):=y5;have zk:(n1:World).drew.cell? ⟨P,5,none⟩=some (.string s.data):=k5;have HD:=hid (HA.out.below (Below.refl _ _).drew);obtain⟨S1,hg,cur,hcu⟩:=HD.out.setData (d:=s.data) hu HO.out;have S1':=hid S1;have gf:=hcu.warm;have B1:=hid (((B0.out.drew).mono hB).setCell (p:=⟨q,u*10+5,none⟩) hg (.string s.data));clear h hO CO b0 S1 hk;go_enter func122,ntmps122
 go_upto_region 3 with fail
 generalize (n1:World)=V at *;go_region_law fail
 all_goals(
  go_wp2;go_ret2;exact⟨rfl,S1',B1⟩)
theorem LJ(w:World)(B P:Nat)(s:Al)(g ca q co:Nat)(lt:List Ac)(lo:List Ab)(t:Nat)(m:Value)(h:Gh w B P s g ca q co lt lo t m)(hB:B<=w.heap.size)(u:Nat)(hu:u<lo.length)(O:Ab)(hO:O=lo[u])(hd:∀x∈lo,x.data.size<=maxLen)(hk:s.kind=7):
 Calls prog 122 #[.pointer (some ⟨P,0,none⟩),.agg #[.pointer (some ⟨q,u*10,none⟩)]] w fun e w'=>e= .returned (.tuple #[.string O.data,.nilIface])/\Gh w' B P s g ca q co lt lo t m/\Below B w w':=by
 obtain⟨CO,ql⟩:=h.st.cell10 hu hd;rw[<-hO]at CO;have n1:Nw (w.alloc (.cells #[.pointer (some ⟨q,u*10,none⟩)] 177)):=⟨⟩;have b0:Below w w n1:=(Below.refl _ w).alloc (Nat.le_refl _) _;have c0:(n1:World).cell? ⟨w,0,none⟩=some (.pointer (some ⟨q,u*10,none⟩)):=by go_simp
 obtain⟨⟨k0,k1,k2,k3,k4,k5,k6,k7,k8,k9⟩,k10,k11,k12,k13⟩:=(h.wk.below b0).work;have y5:(n1:World).cell? ⟨q,u*10+5,none⟩=some (.string O.data):=(CO.below ql b0).c5;have HA:=hid (h.below b0);have B0:=hid b0;have HO:=hid hO;rw[hk]at k1;have B1:=hid (B0.out.mono hB);clear h hO CO b0 hk;go_enter func122,ntmps122
 go_wp2;go_ret2;exact⟨rfl,HA,B1⟩
theorem Ly(w:World)(B P:Nat)(s:Al)(g ca q co:Nat)(lt:List Ac)(lo:List Ab)(t:Nat)(m:Value)(h:Gh w B P s g ca q co lt lo t m)(u:Nat)(hu:u<lo.length)(O:Ab)(hO:O=lo[u])(hd:∀x∈lo,x.data.size<=maxLen)(hk:s.kind=8)(R:Value->World->Prop)
 (CT:Calls prog 140 #[.pointer (some ⟨P,0,none⟩),.agg #[.pointer (some ⟨q,u*10,none⟩)]] (w.alloc (.cells #[.pointer (some ⟨q,u*10,none⟩)] 177)) fun e w'=>∃v,e= .returned v/\R v w'):
 Calls prog 122 #[.pointer (some ⟨P,0,none⟩),.agg #[.pointer (some ⟨q,u*10,none⟩)]] w fun e w'=>∃v,e= .returned (.tuple #[.string ⟨#[]⟩,v])/\R v w':=by
 obtain⟨CO,ql⟩:=h.st.cell10 hu hd;rw[<-hO]at CO;have n1:Nw (w.alloc (.cells #[.pointer (some ⟨q,u*10,none⟩)] 177)):=⟨⟩;have b0:Below w w n1:=(Below.refl _ w).alloc (Nat.le_refl _) _;have c0:(n1:World).cell? ⟨w,0,none⟩=some (.pointer (some ⟨q,u*10,none⟩)):=by go_simp
 obtain⟨⟨k0,k1,k2,k3,k4,k5,k6,k7,k8,k9⟩,k10,k11,k12,k13⟩:=(h.wk.below b0).work;have y5:(n1:World).cell? ⟨q,u*10+5,none⟩=some (.string O.data):=(CO.below ql b0).c5;have HA:=hid (h.below b0);have B0:=hid b0;have HO:=hid hO;rw[hk]at k1;have HC:=hid CT;clear h hO CO b0 hk CT;go_enter func122,ntmps122
 go_wp2_with fail
 refine HC.out.mono ?_;rintro e w1 ⟨v,rfl,r⟩;have HR:=hid r;clear r;go_wp2;go_ret2;exact⟨v,rfl,HR⟩
section
variable {w w':World}{B:Nat}{row:Option Nat}
theorem Av.new.beside9{c:Av}(h:c.new B w)(hr:∀b,row=some b->∃m F,w.rowIs b 9 m F)(hg:w.grownBy w' row):c.new B w':=h.of hg.size (fun b' e hn=>by
 obtain⟨b'',m',F',e',_,_,hr'⟩:=h.2 hn;rw[e]at e';cases e';refine hg.block b' hr'.lt (fun ee=>?_);obtain⟨m,F,h9⟩:=hr b' ee.symm;exact Fi hr' h9 (by decide) rfl)
theorem AI.new.beside9{c:AI}(h:c.new B w)(hr:∀b,row=some b->∃m F,w.rowIs b 9 m F)(hg:w.grownBy w' row):c.new B w':=h.of hg.size (fun b' e hn=>by
 obtain⟨b'',m',F',e',_,_,hr'⟩:=h.2 hn;rw[e]at e';cases e';refine hg.block b' hr'.lt (fun ee=>?_);obtain⟨m,F,h9⟩:=hr b' ee.symm;exact Fi hr' h9 (by decide) rfl)
theorem As.new.beside9{c:As}(h:c.new B w)(hr:∀b,row=some b->b∉c.bs)(hg:w.grownBy w' row):c.new B w':=h.of hg.size (fun b' e h0=>by
 obtain⟨b'',m',F',e',_,_,hr'⟩:=h.2 h0;rw[e]at e';cases e';refine hg.block b' hr'.lt (fun ee=>hr b' ee.symm ?_);unfold As.bs;rw[if_pos h0,e];simp)
end
theorem Bz.itemRow{w w':World}{B q co:Nat}{vt:Value}{row:Option Nat}{lt:List Ac}{lo:List Ab}(h:Bz w B vt (.slice (some ⟨q,0,none⟩) lo.length co) lt lo)(ha:Apart lt lo){u:Nat}(hu:u<lo.length){O:Ab}(hO:O=lo[u])(hr:∀b,row=some b->b∈O.items.bs/\∃m F,w.rowIs b 9 m F)(hg:w.grownBy w' row){d:As}(hd:d.new B w')(hdc:d.n<=d.k/\d.k<=maxLen):
 Bz (w'.setCell ⟨q,u*10+6,none⟩ (.slice d.a d.n d.k)) B vt (.slice (some ⟨q,0,none⟩) lo.length co) lt (lo.set u ⟨O.id,O.kind,O.up,O.b1,O.c1,O.data,d,O.own,O.b2,O.c2⟩)/\(∃cur,Ah w' q (.cells cur 40))/\B<=q:=by
 have hx:=h.on _ (List.getElem_mem hu);rw[<-hO]at hx;have h9:∀b,row=some b->∃m F,w.rowIs b 9 m F:=fun b e=>(hr b e).2;have other:∀{v:Value}{ty:TypeId}{sz n:Nat}{cs:List Value},w.ownsRow B ty sz v n cs->ty≠9->v.ownBlock=none∨v.ownBlock≠row:=fun{v ty sz n cs} ho hty=>by
  rcases ho.2 with⟨hv,_⟩|⟨g',cap,cur,hv,_,hgg,_⟩
  ·exact .inl (by rw[hv];rfl)
  ·refine .inr (fun e=>hty ?_);rw[hv]at e;obtain⟨m,F,c,hc,_⟩:=h9 g' (by rw[<-e];rfl);rw[hgg]at hc;simp at hc;exact hc.2
 have it:(lo.map fun x=>x.items.bs)[u]? =some O.items.bs:=by simp[hu,hO]
 have kt:Dc w' B vt lt:=World.ownsRow.kept h.t hg (other h.t (by decide));have ko:Ba w' B (.slice (some ⟨q,0,none⟩) lo.length co) lo:=World.ownsRow.kept h.o hg (other h.o (by decide));have ton:∀y∈lt,y.new B w':=fun y hy=>⟨(h.tn y hy).1.beside9 h9 hg,(h.tn y hy).2.1.beside9 h9 hg,(h.tn y hy).2.2.beside9 h9 hg⟩;have oon:∀j (hj:j<lo.length),j≠u->(lo[j]).new B w':=fun j hj ne=>by
  have hy:=h.on _ (List.getElem_mem hj);refine⟨hy.1.beside9 h9 hg,hy.2.1.beside9 (fun b e hb=>?_) hg,hy.2.2.1.beside9 h9 hg,hy.2.2.2.beside9 h9 hg⟩;exact Ua ha.s (i:=j) (j:=u) (by simp[hj]) it ne hb (hr b e).1
 obtain⟨cur,hcur⟩:∃cur,Ah w' q (.cells cur 40):=by
  rcases ko.2 with⟨hv,_⟩|⟨g',cap,cur,hv,_,hgg,_⟩
  ·cases hv
  ·cases hv;exact⟨cur,hgg⟩
 have hBg:B<=q:=(World.ownsRow.lt ko q rfl).1;have kl:=Ap (i:=u*10+6) hcur (by decide) (.slice d.a d.n d.k);have ho:=(World.ownsRow.stored ko (u*10+6) (.slice d.a d.n d.k)).1;have hxn:(⟨O.id,O.kind,O.up,O.b1,O.c1,O.data,d,O.own,O.b2,O.c2⟩:Ab).new B w':=⟨hx.1.beside9 h9 hg,hd,hx.2.2.1.beside9 h9 hg,hx.2.2.2.beside9 h9 hg⟩;refine⟨⟨kt.set hcur (by decide) _,?_,fun y hy=>(ton y hy).keeps kl,fun y hy=>?_,h.tc,fun y hy=>?_⟩,⟨cur,hcur⟩,hBg⟩
 ·unfold Ba;have e:=CI (f:=Ab.cs) Ab.cs_len (l:=lo) (t:=u) (x:=(⟨O.id,O.kind,O.up,O.b1,O.c1,O.data,d,O.own,O.b2,O.c2⟩:Ab)) (u:= .slice d.a d.n d.k) (i:=6) hu (by omega) (by rw[<-hO];rfl);have el:(lo.set u (⟨O.id,O.kind,O.up,O.b1,O.c1,O.data,d,O.own,O.b2,O.c2⟩:Ab)).length=lo.length:=by simp
  rw[el];unfold AJ;rw[<-e];exact ho
 ·obtain⟨j,hj,rfl⟩:=List.getElem_of_mem hy;rw[List.getElem_set];split
  ·exact hxn.keeps kl
  ·exact(oon j (by simpa using hj) (by omega)).keeps kl
 ·rcases Ed hy with rfl|hy
  ·exact hdc
  ·exact h.oc y hy
theorem Gh.itemRow{w w':World}{B P:Nat}{s:Al}{g ca q co:Nat}{lt:List Ac}{lo:List Ab}{t:Nat}{m:Value}{row:Option Nat}(h:Gh w B P s g ca q co lt lo t m){u:Nat}(hu:u<lo.length){O:Ab}(hO:O=lo[u])(hr:∀b,row=some b->b∈O.items.bs/\∃m F,w.rowIs b 9 m F)(hg:w.grownBy w' row){d:As}(hd:d.new B w')(hdc:d.n<=d.k/\d.k<=maxLen)(hdb:∀b∈d.bs,b∈O.items.bs∨w.heap.size<=b):
 Gh (w'.setCell ⟨q,u*10+6,none⟩ (.slice d.a d.n d.k)) B P s g ca q co lt (lo.set u ⟨O.id,O.kind,O.up,O.b1,O.c1,O.data,d,O.own,O.b2,O.c2⟩) t m/\(∃cur,Ah w' q (.cells cur 40))/\B<=q/\Ah w' P (.cells (LG s g lt.length ca q lo.length co t m) 89)/\(∀b,row=some b->B<=b/\b≠q/\b≠P):=by
 obtain⟨k1,hcu,hBg⟩:=h.st.itemRow h.ap hu hO hr hg hd hdc;have el:(lo.set u (⟨O.id,O.kind,O.up,O.b1,O.c1,O.data,d,O.own,O.b2,O.c2⟩:Ab)).length=lo.length:=by simp
 have hn:O.cb.Nodup:=C7 (L:=lo.map Ab.cb) (S:=(lt.map Ac.cb).flatten) (t:=u) (by simp[hu,hO]) (List.perm_append_comm.nodup_iff.2 h.ap.c);have hi:O.own.bs.Nodup:=C7 (L:=lo.map fun x=>x.own.bs) (S:=(lt.map fun x=>x.own.bs).flatten) (t:=u) (by simp[hu,hO]) (List.perm_append_comm.nodup_iff.2 h.ap.i);have hx:=h.st.on _ (List.getElem_mem hu);rw[<-hO]at hx;have rw_:∀b,row=some b->B<=b/\b≠q/\b≠P:=fun b e=>by
  obtain⟨h1,m',F,c,hc,_⟩:=hr b e;refine⟨(hx.2.1.bs.2 b h1).1,fun e'=>?_,fun e'=>?_⟩
  ·rcases h.st.o.2 with⟨hv,_⟩|⟨g',cap,cur',hv,_,hgg,_⟩
   ·cases hv
   ·cases hv;rw[<-e',hc]at hgg;simp at hgg
  ·have hw:=h.wk;unfold Ah at hw;rw[<-e',hc]at hw;simp at hw
 have wk:Ah w' P (.cells (LG s g lt.length ca q lo.length co t m) 89):=h.wk.grown hg (fun e=>(rw_ P e.symm).2.2 rfl);exact⟨⟨by rw[el];exact k1,h.ap.setO h.st hu (x:=⟨O.id,O.kind,O.up,O.b1,O.c1,O.data,d,O.own,O.b2,O.c2⟩) hn (fun b hb=> .inl (by rw[<-hO];exact hb)) hi (fun b hb=> .inl (by rw[<-hO];exact hb)) hd.bs.1 (fun b hb=>by rw[<-hO];exact hdb b hb),by rw[el];exact wk.other (Ne.symm h.setQ) _,h.lp⟩,hcu,hBg,wk,rw_⟩
def As.newF(B:Nat)(w:World)(c:As):Prop:=c.at w/\(0<c.n->∃b off m F,c.a=some ⟨b,off,none⟩/\B<=b/\off+c.n<=m/\w.rowIs b 9 m F)
theorem As.new.f{B:Nat}{w:World}{c:As}(h:c.new B w):c.newF B w:=⟨h.1,fun h0=>by
 obtain⟨b,m,F,e,h1,h2,h3⟩:=h.2 h0;exact⟨b,0,m,F,e,h1,by omega,h3⟩⟩
theorem As.newF.of{B:Nat}{w w':World}{c:As}(h:c.newF B w)(hs:w.heap.size<=w'.heap.size)(hb:∀b∈c.bs,w'.heap[b]? =w.heap[b]?):c.newF B w':=
 ⟨⟨h.1.1,fun hn=>by
   obtain⟨b,off,e,hlt,hc⟩:=h.1.2.1 hn;have hm:b∈c.bs:=(by unfold As.bs;rw[if_pos hn,e];simp);exact⟨b,off,e,Nat.lt_of_lt_of_le hlt hs,fun i hi=>by rw[World.cell?_of_block (a:=⟨b,off+i,none⟩) (hb b hm)];exact hc i hi⟩,h.1.2.2⟩,fun hn=>by
   obtain⟨b,off,m,F,e,h1,h2,h3⟩:=h.2 hn;have hm:b∈c.bs:=(by unfold As.bs;rw[if_pos hn,e];simp);exact⟨b,off,m,F,e,h1,h2,h3.of_block (hb b hm)⟩⟩
theorem As.newF.lt{B:Nat}{w:World}{c:As}(h:c.newF B w):∀b∈c.bs,B<=b/\b<w.heap.size:=fun b hb=>by
 unfold As.bs at hb;split at hb
 ·rename_i h0;obtain⟨b',off,m,F,e,h1,_,h3⟩:=h.2 h0;rw[e]at hb;rw[List.mem_singleton.1 hb];exact⟨h1,h3.lt⟩
 ·cases hb
theorem As.newF.below{B:Nat}{w w':World}{c:As}(h:c.newF B w)(hb:Below w w w'):c.newF B w':=h.of hb.size (fun b hm=>hb.block b (h.lt b hm).2)
def Ab.newF(B:Nat)(w:World)(t:Ab):Prop:=t.c1.new B w/\t.items.newF B w/\t.own.new B w/\t.c2.new B w
theorem Ab.newF.at{B:Nat}{w:World}{t:Ab}(h:t.newF B w)(hd:t.data.size<=maxLen):t.at w:=⟨h.1.1,h.2.1.1,h.2.2.1.1,h.2.2.2.1,hd⟩
structure Hs(w:World)(B:Nat)(vt vo:Value)(lt:List Ac)(lo:List Ab):Prop where
 t:Dc w B vt lt
 o:Ba w B vo lo
 tn:∀x∈lt,x.new B w
 on:∀x∈lo,x.newF B w
theorem Bz.f{w:World}{B:Nat}{vt vo:Value}{lt:List Ac}{lo:List Ab}(h:Bz w B vt vo lt lo):Hs w B vt vo lt lo:=⟨h.t,h.o,h.tn,fun x hx=>⟨(h.on x hx).1,(h.on x hx).2.1.f,(h.on x hx).2.2⟩⟩
theorem Hs.below{w w':World}{B:Nat}{vt vo:Value}{lt:List Ac}{lo:List Ab}(h:Hs w B vt vo lt lo)(hb:Below w w w'):Hs w' B vt vo lt lo:=
 ⟨h.t.below hb,h.o.below hb,fun x hx=>(h.tn x hx).keeps (CV.of_below hb).l,fun x hx=>⟨(h.on x hx).1.below hb,(h.on x hx).2.1.below hb,(h.on x hx).2.2.1.below hb,(h.on x hx).2.2.2.below hb⟩⟩
structure Qt(wr:World)(B P:Nat)(s:Al)(g ca q co:Nat)(lt:List Ac)(lo:List Ab)(t:Nat)(m:Value):Prop where
 st:Hs wr B (.slice (some ⟨g,0,none⟩) lt.length ca) (.slice (some ⟨q,0,none⟩) lo.length co) lt lo
 ap:Apart lt lo
 wk:Ah wr P (.cells (LG s g lt.length ca q lo.length co t m) 89)
theorem Gh.f{wr:World}{B P:Nat}{s:Al}{g ca q co:Nat}{lt:List Ac}{lo:List Ab}{t:Nat}{m:Value}(h:Gh wr B P s g ca q co lt lo t m):Qt wr B P s g ca q co lt lo t m:=⟨h.st.f,h.ap,h.wk⟩
theorem Qt.below{wr w':World}{B P:Nat}{s:Al}{g ca q co:Nat}{lt:List Ac}{lo:List Ab}{t:Nat}{m:Value}(h:Qt wr B P s g ca q co lt lo t m)(hb:Below wr wr w'):Qt w' B P s g ca q co lt lo t m:=⟨h.st.below hb,h.ap,h.wk.below hb⟩
theorem Ol(tmps:Array Value)(W:World)(P:Nat)(x y:Value)(h:Ah W P (.cells #[x,y] 30))(h2:tmps[2]? =some (.pointer (some ⟨P,0,none⟩))):
 (results Tryz.f133 tmps).run prog W= .ok (.agg #[x,y]) W:=by
 obtain⟨z0,z1⟩:=h.two;simp[results,Tryz.results133,go_sem,h2,z0,z1]
theorem Oz(q j:Nat)(b:Int)(c:Av)(w:World)(hq:q<w.heap.size)(h3:w.cell? ⟨q,j+3,none⟩=some (.int .i64 b))(h4:w.cell? ⟨q,j+3+1,none⟩=some (.slice c.a c.n c.k)):
 Calls prog 133 #[.agg #[.pointer (some ⟨q,j,none⟩)]] w fun e w'=>e= .returned (.agg #[.int .i64 b,.slice c.a c.n c.k])/\Below w w w':=by
 have n1:Nw (w.alloc (.cells #[.pointer (some ⟨q,j,none⟩)] 175)):=⟨⟩;have n2:No (.cells #[.int .i64 0,.slice none 0 0] 30):=⟨⟩;have b0:Below w w ((n1:World).alloc n2):=((Below.refl _ w).alloc (Nat.le_refl _) _).alloc (by simp) _;have R0:Ah ((n1:World).alloc n2) (w.heap.size+1) n2:=by
  have:=Ah.new n1 n2;simpa using this
 have e3:=(b0.cell (p:=⟨q,j+3,none⟩) hq).trans h3;have e4:=(b0.cell (p:=⟨q,j+3+1,none⟩) hq).trans h4;obtain⟨r0,r1⟩:=R0.two;have rf:=R0.warm;clear R0 b0;go_enter func133,ntmps133
 go_wp2;refine bodyPost_ret (Ol _ _ (w.heap.size+1) (.int .i64 b) (.slice c.a c.n c.k) (by have:=Ah.new n1 (.cells #[.int .i64 b,.slice c.a c.n c.k] 30);simpa using this) rfl) rfl ⟨rfl,?_⟩;exact((Below.refl _ w).alloc (Nat.le_refl _) _).alloc (by simp) _
end Go.Proofs.YtphddbnadcjhgaaGreatDoor
