import Derived.Defers
import Derived.Recover
import Derived.Shelf.Strings.OnBuilder
import Derived.Shelf.Strings.Builder1
import Derived.Shelf.Strings.BuilderF
import Derived.Shelf.Strconv.Itoa4
import Derived.Shelf.Strconv.Clone
import Derived.Shelf.LaysM
import Derived.Shelf.Lays
import Derived.Ground.NamesProg
import Derived.Test.YtblapfnglojgjaaGreatDoorZ31k
set_option maxRecDepth 100000
set_option maxHeartbeats 2000000
namespace Go.Proofs.YtblapfnglojgjaaGreatDoor
open Go Go.RowKit Go.Deep Go.Maps Go.Proofs.Tryz
variable {u:TypeId}{pv:Value}{w w' W a b W':World}{rb P:Nat}{R:List UInt8}
def MR(u:TypeId)(pv:Value)(w:World):Prop:=w.cell? ⟨0,0,none⟩=some (.iface u pv)/\0<w.heap.size
theorem MR.below(h:MR u pv w)(hb:Below w w w'):MR u pv w':=⟨(hb.cell (p:=⟨0,0,none⟩) h.2).trans h.1,Nat.lt_of_lt_of_le h.2 hb.size⟩
theorem MR.grown(h:MR u pv w)(hg:w.grownBy w' (some rb))(h0:rb≠0):MR u pv w':=⟨by
 rw[<-h.1];unfold World.cell?;rw[hg.block 0 h.2 (fun e=>h0 (Option.some.inj e).symm)],Nat.lt_of_lt_of_le h.2 hg.size⟩
def Be(u:TypeId)(pv:Value):Ending:= .panicked [{v:= .iface u pv,recovered:=false}]
theorem Jb(w:World):Calls prog 46 #[.bool true] w fun e w'=>e= .returned (.tuple #[])/\w'=w:=by
 go_enter func46,ntmps46
 go_wp2;simp[bodyPost,results,Tryz.results46]
theorem Km(u:TypeId)(pv:Value)(w:World)(h:MR u pv w):Calls prog 46 #[.bool false] w fun e w'=>e=Be u pv/\w'=w:=by
 have c:=h.1;go_enter func46,ntmps46
 go_wp2;simp[bodyPost,Be]
theorem Ai.one{t:Nat}{x:Value}(h:Ai W P (.cells #[x] t)):W.cell? ⟨P,0,none⟩=some x:=by
 unfold Ai at h;simp[World.cell?,h]
theorem Cm(h:Below a a b)(row:Option Nat):a.grownBy b row:=⟨h.os,h.tape,h.output,h.size,fun j hj _=>h.block j hj⟩
theorem Ey{row:Option Nat}{Q:Nat}(h:a.grownBy b row)(hQ:a.heap.size<=Q)(i:Nat)(v:Value):a.grownBy (b.setCell ⟨Q,i,none⟩ v) row:=
 ⟨h.os,h.tape,h.output,by simpa[World.setCell]using h.size,fun j hj hne=>(Below.heap_setCell _ _ _ _ (by show j≠Q;omega)).trans (h.block j hj hne)⟩
theorem AI{c:World}(h:a.grownBy b (some P))(k:b.grownBy c (some P)):a.grownBy c (some P):=
 ⟨k.os.trans h.os,k.tape.trans h.tape,k.output.trans h.output,Nat.le_trans h.size k.size,fun j hj hne=>(k.block j (Nat.lt_of_lt_of_le hj h.size) hne).trans (h.block j hj hne)⟩
def Iy(W:World)(rb:Nat)(R:List UInt8):Prop:=Ai W rb (.cells #[.string (bytesOf R)] 85)
theorem Iy.below(h:Iy W rb R)(hb:Below W W W'):Iy W' rb R:=Ai.below h hb
theorem Iy.grown(h:Iy W rb R)(hg:W.grownBy W' (some P))(hne:rb≠P):Iy W' rb R:=Ai.grown h hg (fun e=>hne (Option.some.inj e))
def dK(u:TypeId)(pv:Value)(rb:Nat)(W:World)(f:Bool)(p q:List UInt8)(e:Ending)(W':World):Prop:=(f=true/\e= .returned (.string (bytesOf p))/\Iy W' rb q/\W.grownBy W' (some rb))∨(f=false/\e=Be u pv/\W.grownBy W' (some rb))
def dD(u:TypeId)(pv:Value)(rb:Nat)(W:World)(f:Bool)(p q:List UInt8)(e:Ending)(W':World):Prop:=(f=true/\okD p=true/\e= .returned (.int .i64 (CF p))/\Iy W' rb q/\W.grownBy W' (some rb))∨((f&&okD p)=false/\e=Be u pv/\W.grownBy W' (some rb))
def dG(u:TypeId)(pv:Value)(rb:Nat)(W:World)(f:Bool)(r:Int×List (Int×Int)×Bool)(q:List UInt8)(e:Ending)(W':World):Prop:=(f=true/\r.2.2=true/\∃a kk,e= .returned (.agg #[.int .i64 r.1,.slice a r.2.1.length kk])/\An W' W (.slice a r.2.1.length kk) r.2.1/\Iy W' rb q/\W.grownBy W' (some rb))∨((f&&r.2.2)=false/\e=Be u pv/\W.grownBy W' (some rb))
def cV(u:TypeId)(pv:Value)(rb:Nat)(W:World)(f:Bool)(p q:List UInt8)(e:Ending)(W':World):Prop:=(f=true/\∃lb,e= .returned (.pointer (some ⟨lb,0,none⟩))/\W.heap.size<=lb/\Iy W' lb (p++[32])/\Iy W' rb q/\W.grownBy W' (some rb))∨(f=false/\e=Be u pv/\W.grownBy W' (some rb))
theorem dF(R:List UInt8)(c:UInt8)(W:World)(hR:R.length<=1048576):Calls prog 99 #[.string (bytesOf R),.string ⟨#[c]⟩] W fun e w'=>e= .returned (.tuple #[.string (bytesOf (Ak c R).1),.string (bytesOf (Ak c R).2.1),.bool (Ak c R).2.2])/\Below W W w':=by
 have:=Nu (bytesOf R) c W (by rw[Au];unfold maxLen;omega);rw[AM]at this;exact this
theorem Mn(u:TypeId)(pv:Value)(rb:Nat)(R:List UInt8)(c:UInt8)(W:World)(hL:R.length<=1048576)(hR:Iy W rb R)(hE:MR u pv W):
 Calls prog 72 #[.pointer rb,.string ⟨#[c]⟩] W fun e W'=>dK u pv rb W (Ak c R).2.2 (Ak c R).1 (Ak c R).2.1 e W':=by
 have CT:=hid (dF R c W hL);have c1:=Ai.one hR;have HB:=hid hR;have HE:=hid hE;clear hR hE;generalize (Ak c R).1=p at *;generalize (Ak c R).2.1=q at *;generalize (Ak c R).2.2=f at *;go_enter func72,ntmps72
 go_wp2_with fail
 refine CT.out.mono ?_;rintro e w1 ⟨rfl,hb1⟩;have B1:=hid (HB.out.below hb1);have z1:=Ai.one B1.out;have f1:=Ai.jC B1 0;have E1:=hid (HE.out.below hb1);clear c1 CT HB HE;cases f with
 |true=>
  go_wp2_with(go_at_call 46;refine(Jb _).mono ?_;rintro e w2 ⟨rfl,rfl⟩)
  go_ret;exact Or.inl ⟨rfl,rfl,Ai.jB (i:=0) B1 _,Ck (Cm hb1 _) _ _⟩
 |false=>
  go_wp2_with(go_at_call 46;refine(Km u pv _ E1).mono ?_;rintro e w2 ⟨rfl,rfl⟩;unfold Be)
  exact⟨rfl,Or.inr ⟨rfl,rfl,Cm hb1 _⟩⟩
theorem Oj(u:TypeId)(pv:Value)(rb:Nat)(R:List UInt8)(W:World)(hL:R.length<=1048576)(hR:Iy W rb R)(hE:MR u pv W)(h0:rb≠0):
 Calls prog 73 #[.pointer rb] W fun e W'=>dD u pv rb W (Ak 32 R).2.2 (Ak 32 R).1 (Ak 32 R).2.1 e W':=by
 have U:=hid (Mn u pv rb R 32 W hL hR hE);have HE:=hid hE;have pl:=Cs 32 R;clear hR hE;generalize (Ak 32 R).1=p at *;generalize (Ak 32 R).2.1=q at *;generalize (Ak 32 R).2.2=f at *;go_enter func73,ntmps73
 go_wp2_with fail
 refine U.out.mono ?_;rintro e w1 (⟨hf,rfl,R1,G1⟩|⟨hf,rfl,G1⟩)
 ·have RR:=hid R1;have GG:=hid G1;have CD:=hid (Fq (bytesOf p) w1 (by rw[Au];unfold maxLen;omega));rw[AM]at CD;unfold Di at CD;clear U R1 G1;go_wp2_with fail
  refine CD.out.mono ?_;rintro e w2 ⟨rfl,hb2⟩;have E2:=hid ((HE.out.grown GG h0).below hb2);have HF:=hid hf;clear hf CD;cases ho:okD p with
  |true=>
   go_wp2_with(go_at_call 46;refine(Jb _).mono ?_;rintro e w3 ⟨rfl,rfl⟩)
   go_ret;exact Or.inl ⟨HF,ho,rfl,RR.out.below hb2,AI GG (Cm hb2 _)⟩
  |false=>
   go_wp2_with(go_at_call 46;refine(Km u pv _ E2).mono ?_;rintro e w3 ⟨rfl,rfl⟩;unfold Be)
   exact⟨rfl,Or.inr ⟨by rw[ho,Bool.and_false],rfl,AI GG (Cm hb2 _)⟩⟩
 ·unfold Be;go_wp2;exact⟨rfl,Or.inr ⟨by rw[hf];rfl,rfl,G1⟩⟩
theorem XM(tmps:Array Value)(W:World)(P:Nat)(x y:Value)(h:Ai W P (.cells #[x,y] 44))(h2:tmps[2]? =some (.pointer P)):
 (results Tryz.f74 tmps).run prog W= .ok (.agg #[x,y]) W:=by
 obtain⟨z0,z1⟩:=h.two;simp[results,Tryz.results74,go_sem,h2,z0,z1]
theorem XW(u:TypeId)(pv:Value)(rb:Nat)(R:List UInt8)(W:World)(hL:R.length<=1048576)(hR:Iy W rb R)(hE:MR u pv W)(h0:rb≠0):
 Calls prog 74 #[.pointer rb] W fun e W'=>dG u pv rb W (Ak 32 R).2.2 (Al (Ak 32 R).1) (Ak 32 R).2.1 e W':=by
 have lr:=Ai.lt hR;have n2:No (.cells #[.int .i64 0,.slice none 0 0] 44):=⟨⟩;have bz:=(Below.refl _ W).alloc nr n2;have Z0:=hid (Ai.new W n2);have G0:=hid (Cm bz (some rb));have U:=hid (Mn u pv rb R 32 _ hL (hR.below bz) (hE.below bz));have HE:=hid (hE.below bz);have pl:=Cs 32 R;have ne:W.heap.size≠rb:=by omega
 clear hR hE bz;generalize (Ak 32 R).1=p at *;generalize (Ak 32 R).2.1=q at *;generalize (Ak 32 R).2.2=f at *;have CR:Hid (∀w,Calls prog 101 #[.string (bytesOf p)] w (Gg (Al p) w)):=hid (fun w=>by
  have:=Ta (bytesOf p) w (by rw[Au];omega);rw[AM]at this;exact this)
 generalize Al p=r at *;obtain⟨rb1,rl1,rk1⟩:=r;go_enter func74,ntmps74
 go_wp2_with fail
 refine U.out.mono ?_;rintro e w1 (⟨hf,rfl,R1,G1⟩|⟨hf,rfl,G1⟩)
 ·have Z1:=hid (Z0.out.grown G1 (fun e=>ne (Option.some.inj e)));have GA:=hid (AI G0 G1);have RR:=hid R1;have E1:=hid (HE.out.grown G1 h0);have lt1:W.heap.size<w1.heap.size:=Z1.out.lt;have HF:=hid hf;clear hf;clear U R1 G1 Z0 G0 HE;go_wp2_with fail
  refine(CR w1).mono ?_;rintro e w2 ⟨a,kk,rfl,O2,hb2⟩;have n1:No (.cells #[.int .i64 rb1,.slice a rl1.length kk] 44):=⟨⟩;have Z2:=hid ((Z1.out.below hb2).alloc n1);have Y2:=hid (Ai.new w2 n1);have b2:=hb2.alloc hb2.size n1;have G2:=hid (AI GA (Cm b2 (some rb)));have R2:=hid (RR.out.below b2);have E2:=hid (E1.out.below b2);have N2:=hid (As.alloc O2 n1);clear Z1 GA RR O2 hb2 b2 CR E1;obtain⟨y0,y1⟩:=Y2.out.two;obtain⟨z0,z1⟩:=Z2.out.two;have f0:=Z2.out.jC 0;have f1:=Z2.out.jC 1;cases rk1 with
  |true=>
   go_wp2_with(go_at_call 46;refine(Jb _).mono ?_;rintro e w3 ⟨rfl,rfl⟩)
   refine bodyPost_ret (XM _ _ W (.int .i64 rb1) (.slice a rl1.length kk) ((Z2.out.jB _).jB _) rfl) rfl (Or.inl ⟨HF,rfl,a,kk,rfl,An.low (An.set (An.set N2 lt1 _ _) lt1 _ _) (Nat.le_of_lt lt1),Ai.other (Ai.other R2 ne _) ne _,Ey (Ey G2 nr _ _) nr _ _⟩)
  |false=>
   go_wp2_with(go_at_call 46;refine(Km u pv _ E2).mono ?_;rintro e w3 ⟨rfl,rfl⟩;unfold Be)
   exact⟨rfl,Or.inr ⟨Bool.and_false _,rfl,G2⟩⟩
 ·unfold Be;go_wp2;exact⟨rfl,Or.inr ⟨by rw[hf];rfl,rfl,AI G0 G1⟩⟩
theorem QX(u:TypeId)(pv:Value)(rb:Nat)(R:List UInt8)(W:World)(hL:R.length<=1048575)(hR:Iy W rb R)(hE:MR u pv W):
 Calls prog 43 #[.pointer rb] W fun e W'=>cV u pv rb W (Ak 10 R).2.2 (Ak 10 R).1 (Ak 10 R).2.1 e W':=by
 have U:=hid (Mn u pv rb R 10 W (by omega) hR hE);have pl:=Cs 10 R;clear hR hE;generalize (Ak 10 R).1=p at *;generalize (Ak 10 R).2.1=q at *;generalize (Ak 10 R).2.2=f at *;have sp:(bytesOf p).size=p.length:=Au p;have r1:¬9223372036854775807<(bytesOf p).size+(ByteArray.mk #[32]).size:=by rw[sp];show ¬9223372036854775807<p.length+1;omega
 have ep:Hid (bytesOf p++ByteArray.mk #[32]=bytesOf (p++[32])):=hid (by
  apply ByteArray.ext;apply Array.ext';simp[bytesOf])
 clear sp;go_enter func43,ntmps43
 go_wp2_with fail
 refine U.out.mono ?_;rintro e w1 (⟨hf,rfl,R1,G1⟩|⟨hf,rfl,G1⟩)
 ·have n1:No (.cells #[.string (bytesOf (p++[32]))] 85):=⟨⟩;have b1:=(Below.refl _ w1).alloc nr n1;have N1:=hid (Ai.new w1 n1);have R2:=hid (R1.below b1);have G2:=hid (AI G1 (Cm b1 (some rb)));have sz:=G1.size;have HF:=hid hf;clear U R1 G1 b1 hf;go_wp2;rw[ep.out];go_ret;exact Or.inl ⟨HF,_,rfl,sz,N1,R2,G2⟩
 ·unfold Be;go_wp2;exact⟨rfl,Or.inr ⟨hf,rfl,G1⟩⟩
variable {ts:List TD}{os:List OD}{l w W R Q b:List UInt8}{α:Type}{c:UInt8}{x:Int}{d:OD}
def EZ(d:TD):List (List UInt8):=dc d.id::GR d.b1 d.l1::GR d.b2 d.l2::dc d.made::d.own.map dc
def DZ(d:OD):List (List UInt8):=dc d.id::dc d.kind::dc d.up::GR d.b1 d.l1::GR d.b2 d.l2::d.own.map dc
def JY(l:List UInt8):List UInt8:=if l=[]then[]else Hz++32::(l++[10])
def Hq(is:List (List UInt8)):List UInt8:=(is.map fun i=>En++32::(i++[10])).flatten
theorem Pp:Hq []=[]:=rfl
theorem IR(i:List UInt8)(is:List (List UInt8)):Hq (i::is)=En++32::(i++10::Hq is):=by simp[Hq]
def tX(d:TD):List UInt8:=Gh++Lq (EZ d)++[10]
def oX(d:OD):List UInt8:=Fj++Lq (DZ d)++10::(JY d.data++Hq d.jA)
theorem Yx(d:TD):II d.v=tX d:=by
 unfold II Dk tX;rw[List.cons_append,Lib.join_cons];show Gh++Lib.joinTail [32] ([dc d.id,lb d.b1 (KH d.l1),lb d.b2 (KH d.l2),dc d.made]++List.map dc (AF (intD d.own)))++[10]=_;rw[Kv,Kv,Jc];rfl
theorem YB(l:List UInt8):Fl (bytesOf l)=JY l:=by
 unfold Fl JY;rw[Ib];have e:(bytesOf l).size=l.length:=by simp[bytesOf,ByteArray.size]
 rw[e];by_cases h:l=[]
 ·simp[h]
 ·have:¬l.length=0:=by simpa using h
  simp only[this,h,decide_false,if_false,Bool.false_eq_true];rw[GU,AM];simp
theorem Yt(is:List (List UInt8)):Ek (Ol is).f (Ol is).n=Hq is:=by
 unfold Ek Hq;have:((List.range (Ol is).n).map fun i=>Dk [En,((Ol is).f i).data.toList])=is.map fun i=>En++32::(i++[10]):=by
  conv=>rhs;rw[<-Jv is []]
  rw[List.map_map];refine List.map_congr_left fun i _=>?_;show Dk [En,(bytesOf (is.getD i [])).data.toList]=En++32::(is.getD i []++[10]);rw[GU,AM];simp
 rw[this]
theorem Zh(d:OD):objT d.v []=oX d:=by
 unfold objT EV Dk oX;rw[List.cons_append,List.cons_append,Lib.join_cons];show(Fj++Lib.joinTail [32] ([dc d.id,dc d.kind,dc d.up,lb d.b1 (KH d.l1),lb d.b2 (KH d.l2)]++List.map dc (AF (intD d.own))++List.map dc [])++[10])++Fl (bytesOf d.data)++Ek (Ol d.jA).f (Ol d.jA).n=_;rw[Kv,Kv,Jc,YB,Yt];simp[DZ,Lq,List.append_assoc]
def ae(ts:List TD)(os:List OD):List UInt8:=(ts.map tX).flatten++(os.map oX).flatten
theorem Jm(h:AW (Dd ts os)=true):(By (Dd ts os)).data.toList=ae ts os:=by
 unfold By;rw[if_pos h];have e1:CI (Dd ts os).T (Dd ts os).tn=(ts.map tX).flatten:=by
  unfold CI;conv=>rhs;rw[<-Jv ts zT]
  rw[List.map_map];refine congrArg _ (List.map_congr_left fun i _=>Yx _)
 have e2:Dj (Dd ts os).O (Dd ts os).on=(os.map oX).flatten:=by
  unfold Dj;conv=>rhs;rw[<-Jv os zO]
  rw[List.map_map];refine congrArg _ (List.map_congr_left fun i _=>Zh _)
 rw[e1,e2];rfl
theorem WW(h:¬AW (Dd ts os)=true):(By (Dd ts os)).data.toList=[]:=by
 unfold By;rw[if_neg h]
structure GT(d:TD):Prop where
 id:small d.id
 made:small d.made
 l1:AO d.b1 d.l1.length (Az d.l1) (Ay d.l1)=true
 l2:AO d.b2 d.l2.length (Az d.l2) (Ay d.l2)=true
 own:∀x∈d.own,small x
structure GO(d:OD):Prop where
 id:small d.id
 kind:small d.kind
 up:small d.up
 l1:AO d.b1 d.l1.length (Az d.l1) (Ay d.l1)=true
 l2:AO d.b2 d.l2.length (Az d.l2) (Ay d.l2)=true
 own:∀x∈d.own,small x
 data:no 10 d.data
 jA:∀i∈d.jA,no 10 i
theorem Ul(h:Bp (bytesOf l) 40=true):no 10 l:=fun b hb e=>by
 simp only[Bp,Bool.and_eq_true]at h;have h1:=h.1;rw[AM,List.all_eq_true]at h1;have:=h1 b hb;subst e;revert this;decide
theorem Pq{l:List α}{x d:α}(h:x∈l):∃i,i<l.length/\l.getD i d=x:=by
 obtain⟨i,hi,e⟩:=List.getElem_of_mem h;exact⟨i,hi,by simp[List.getElem?_eq_getElem hi,e]⟩
theorem Ug{l:List Int}(h:Cg (intD l).n (intD l).h=true):∀x∈l,small x:=by
 have:=(BF h).2;rwa [Jc]at this
theorem Yq(h:AW (Dd ts os)=true):∀d∈ts,GT d:=fun d hd=>by
 obtain⟨i,hi,rfl⟩:=Pq (d:=zT) hd;obtain⟨h1,h2,h3,h4,h5⟩:=IL (Ik h (i:=i) hi);exact⟨h1,h2,h3,h4,Ug h5⟩
theorem YZ(h:AW (Dd ts os)=true):∀d∈os,GO d:=fun d hd=>by
 obtain⟨i,hi,rfl⟩:=Pq (d:=zO) hd;have ho:=Kj h (i:=i) hi;obtain⟨h1,h2,h3,_,_,_,h7⟩:=Hn ho;simp only[Bz,Bool.and_eq_true]at ho;obtain⟨⟨⟨⟨⟨_,_⟩,_⟩,p4⟩,p5⟩,_⟩:=ho;obtain⟨_,i2⟩:=OJ p5;refine⟨Jw h hi,h7,MH h hi,h1,h2,Ug h3,Ul p4,fun x hx=>?_⟩;obtain⟨j,hj,e⟩:=Pq (d:=[]) hx;have:=i2 j hj;rw[<-e];exact Ul this
theorem Ps(h:Bg c=false)(x:Int):no c (dc x):=FC h _
theorem MY(h:small x):okD (dc x)=true/\CF (dc x)=x:=by
 have e:okD (dc x)=true:=Ny (by have:=h.1;have:=h.2;omega);refine⟨e,?_⟩;unfold CF;rw[if_pos e];show((Do (Bt x.toNat):Nat):Int)=x;rw[Sk];have:=h.1;omega
theorem Mx(h:small x):Bb (dc x)=x:=by
 unfold Bb;rw[if_pos (MY h).1,(MY h).2]
theorem Me(h0:Bg c=false)(h1:c≠44)(h2:c≠58)(d:TD):∀w∈EZ d,no c w:=fun w hw=>by
 simp only[EZ,List.mem_cons,List.mem_map]at hw;rcases hw with rfl|rfl|rfl|rfl|⟨x,_,rfl⟩
 ·exact Ps h0 _
 ·exact Sb h0 h1 h2 _ _
 ·exact Sb h0 h1 h2 _ _
 ·exact Ps h0 _
 ·exact Ps h0 _
theorem Mm(h0:Bg c=false)(h1:c≠44)(h2:c≠58)(d:OD):∀w∈DZ d,no c w:=fun w hw=>by
 simp only[DZ,List.mem_cons,List.mem_map]at hw;rcases hw with rfl|rfl|rfl|rfl|rfl|⟨x,_,rfl⟩
 ·exact Ps h0 _
 ·exact Ps h0 _
 ·exact Ps h0 _
 ·exact Sb h0 h1 h2 _ _
 ·exact Sb h0 h1 h2 _ _
 ·exact Ps h0 _
theorem NC{l:List Int}(h:∀x∈l,small x):(l.map dc).map Bb=l/\(l.map dc).all okD=true:=by
 constructor
 ·rw[List.map_map];conv=>rhs;rw[<-List.map_id l]
  exact List.map_congr_left fun x hx=>Mx (h x hx)
 ·rw[List.all_eq_true];intro w hw;obtain⟨x,hx,rfl⟩:=List.mem_map.1 hw;exact(MY (h x hx)).1
theorem Qy{d:TD}(h:GT d):Qb (EZ d)=d/\JA (EZ d)=some d:=by
 have e:Qb (EZ d)=d:=by
  simp[Qb,EZ,Mx h.id,Mx h.made,GK h.l1,GK h.l2,(NC h.own).1]
 refine⟨e,?_⟩;unfold JA;rw[if_pos,e];have o:=(NC h.own).2;simp[EZ,(MY h.id).1,(MY h.made).1,GK h.l1,GK h.l2];simpa using o
theorem Re(h:GO d):Qk (DZ d)={d with data:=[],jA:=[]}/\LP (DZ d)=some {d with data:=[],jA:=[]}:=by
 have e:Qk (DZ d)={d with data:=[],jA:=[]}:=by
  simp[Qk,DZ,Mx h.id,Mx h.kind,Mx h.up,GK h.l1,GK h.l2,(NC h.own).1]
 refine⟨e,?_⟩;unfold LP;rw[if_pos,e];have o:=(NC h.own).2;simp[DZ,(MY h.id).1,(MY h.kind).1,(MY h.up).1,GK h.l1,GK h.l2];simpa using o
theorem IU(h:okD w=true):dc (Bb w)=w:=by
 unfold Bb CF dc;rw[if_pos h,if_pos h];simp[RV h]
theorem LR(h:(Al w).2.2=true):GR (Al w).1 (Al w).2.1=w:=(Xz (S:=w) (b:=(Al w).1) (l:=(Al w).2.1) (by rw[<-h])).2
theorem Rw{l:List (List UInt8)}(h:l.all okD=true):(l.map Bb).map dc=l:=by
 rw[List.map_map];conv=>rhs;rw[<-List.map_id l]
 exact List.map_congr_left fun x hx=>IU (List.all_eq_true.1 h x hx)
theorem XK{ws:List (List UInt8)}{d:TD}(h:JA ws=some d):ws=EZ d:=by
 unfold JA at h;split at h
 ·rename_i hh;obtain⟨n,h0,h1,h2,h3,h4⟩:=hh;have:=Option.some.inj h;subst this;match ws,n with
  |w0::w1::w2::w3::r,_=>
   simp only[List.getD_cons_zero,List.getD_cons_succ,List.drop_succ_cons,List.drop_zero]at h0 h1 h2 h3 h4;simp only[EZ,Qb,List.getD_cons_zero,List.getD_cons_succ,List.drop_succ_cons,List.drop_zero];rw[IU h0,LR h1,LR h2,IU h3,Rw h4]
 ·cases h
theorem Xb{ws:List (List UInt8)}(h:LP ws=some d):ws=DZ d/\d.data=[]/\d.jA=[]:=by
 unfold LP at h;split at h
 ·rename_i hh;obtain⟨n,h0,h1,h2,h3,h4,h5⟩:=hh;have:=Option.some.inj h;subst this;refine⟨?_,rfl,rfl⟩;match ws,n with
  |w0::w1::w2::w3::w4::r,_=>
   simp only[List.getD_cons_zero,List.getD_cons_succ,List.drop_succ_cons,List.drop_zero]at h0 h1 h2 h3 h4 h5;simp only[DZ,Qk,List.getD_cons_zero,List.getD_cons_succ,List.drop_succ_cons,List.drop_zero];rw[IU h0,IU h1,IU h2,LR h3,LR h4,Rw h5]
 ·cases h
theorem Kr(W Q:List UInt8):Bf W (W++32::Q)=some Q:=by
 unfold Bf;have e:W++32::Q=(W++[32])++Q:=by simp
 rw[if_pos (by rw[e,List.isPrefixOf_iff_prefix];exact List.prefix_append _ _),e,List.drop_left' (by simp)]
theorem Hr(h:Bf W R=some Q):R=W++32::Q:=by
 unfold Bf at h;split at h
 ·rename_i hp;rw[List.isPrefixOf_iff_prefix]at hp;obtain⟨t,rfl⟩:=hp;have:=Option.some.inj h;rw[List.drop_left' (by simp)]at this;subst this;simp
 ·cases h
theorem Fy(h:Bf W R=some Q):Q.length<R.length:=by
 rw[Hr h];simp;omega
theorem Kt:(Ak 10 Q).2.1.length<=Q.length:=Dc 10 Q
theorem Ue{P:List UInt8}{ws:List (List UInt8)}(h:Aj P=ws):32::P=Lq ws:=by
 obtain⟨w,r,h1,h2⟩:=Rz P;rw[h]at h1;rw[h1,Fe,<-h2]
theorem Lv(h:(Ak c Q).2.2=true):Q=(Ak c Q).1++c::(Ak c Q).2.1:=by
 have:=Hh c Q;rw[if_pos h]at this;exact this
theorem bM(hc:c≠32){ws:List (List UInt8)}(h:∀w∈ws,no c w):no c (Lq ws):=by
 induction ws with
 |nil=>intro b hb;cases hb
 |cons w ws ih=>
  rw[Fe];intro b hb;rcases List.mem_cons.1 hb with rfl|hb
  ·exact fun e=>hc e.symm
  ·rcases List.mem_append.1 hb with hb|hb
   ·exact h w (List.mem_cons_self ..) b hb
   ·exact ih (fun x hx=>h x (List.mem_cons_of_mem _ hx)) b hb
theorem Nq{ws:List (List UInt8)}(hc:c≠32)(h:∀x∈w::ws,no c x):no c (w++Lq ws):=fun b hb=>by
 have:=bM hc h;rw[Fe]at this;exact this b (List.mem_cons_of_mem _ hb)
theorem Qx:∀(more:List TD) (n:Nat) (ts:List TD) (R:List UInt8),(∀d∈more,GT d)->more.length<n->Bf Gh R=none->Js n ts ((more.map tX).flatten++R)=some (ts++more,R)
 |[],n,ts,R,_,hn,hR=>by
  obtain⟨m,rfl⟩:∃m,n=m+1:=⟨n-1,by simp at hn;omega⟩;simp[Js,hR]
 |d::more,n,ts,R,hg,hn,hR=>by
  obtain⟨m,rfl⟩:∃m,n=m+1:=⟨n-1,by simp at hn;omega⟩;have gd:=hg d (List.mem_cons_self ..);have e:((d::more).map tX).flatten++R=Gh++32::((dc d.id++Lq (EZ d).tail)++10::((more.map tX).flatten++R)):=by
   rw[List.map_cons,List.flatten_cons];show Gh++Lq (dc d.id::(EZ d).tail)++[10]++_++R=_;rw[Fe];simp
  have n32:∀x∈dc d.id::(EZ d).tail,no 32 x:=Me (by decide) (by decide) (by decide) d;have n10:∀x∈dc d.id::(EZ d).tail,no 10 x:=Me (by decide) (by decide) (by decide) d;rw[e];unfold Js;rw[Kr];simp only;rw[FU (Nq (by decide) n10)];simp only[if_true];rw[Kl n32];show(match JA (EZ d)with|none=>none|some t=>Js m (ts++[t]) ((more.map tX).flatten++R))=_;rw[(Qy gd).2];simp only;rw[Qx more m (ts++[d]) R (fun x hx=>hg x (List.mem_cons_of_mem _ hx)) (by simp at hn;omega) hR];simp
theorem QF:∀(n:Nat) (ts:List TD) (R:List UInt8) (p:List TD×List UInt8),Js n ts R=some p->∃more,p.1=ts++more/\R=(more.map tX).flatten++p.2
 |0,_,_,_,h=>by simp[Js]at h
 |n+1,ts,R,p,h=>by
  unfold Js at h;split at h
  ·have:=Option.some.inj h;subst this;exact⟨[],by simp,by simp⟩
  ·rename_i Q hQ;split at h
   ·rename_i hf;split at h
    ·cases h
    ·rename_i t ht;obtain⟨more,h1,h2⟩:=QF n _ _ p h;refine⟨t::more,by rw[h1];simp,?_⟩;rw[Hr hQ,Lv hf,h2,List.map_cons,List.flatten_cons];have:=Ue (XK ht);simp only[tX,List.append_assoc,List.cons_append,List.nil_append];rw[<-this];simp
   ·cases h
theorem Rf:∀(is:List (List UInt8)) (n:Nat) (acc:List (List UInt8)) (R:List UInt8),(∀i∈is,no 10 i)->is.length<n->Bf En R=none->JG n acc (Hq is++R)=some (acc++is,R)
 |[],n,acc,R,_,hn,hR=>by
  obtain⟨m,rfl⟩:∃m,n=m+1:=⟨n-1,by simp at hn;omega⟩;simp[JG,hR,Pp]
 |i::is,n,acc,R,hg,hn,hR=>by
  obtain⟨m,rfl⟩:∃m,n=m+1:=⟨n-1,by simp at hn;omega⟩;have e:Hq (i::is)++R=En++32::(i++10::(Hq is++R)):=by rw[IR];simp
  rw[e];unfold JG;rw[Kr];simp only;rw[FU (hg i (List.mem_cons_self ..))];simp only[if_true];rw[Rf is m (acc++[i]) R (fun x hx=>hg x (List.mem_cons_of_mem _ hx)) (by simp at hn;omega) hR];simp
theorem Rr:∀(n:Nat) (acc:List (List UInt8)) (R:List UInt8) (p:List (List UInt8)×List UInt8),JG n acc R=some p->∃is,p.1=acc++is/\R=Hq is++p.2
 |0,_,_,_,h=>by simp[JG]at h
 |n+1,acc,R,p,h=>by
  unfold JG at h;split at h
  ·have:=Option.some.inj h;subst this;exact⟨[],by simp,by simp[Pp]⟩
  ·rename_i Q hQ;split at h
   ·rename_i hf;obtain⟨is,h1,h2⟩:=Rr n _ _ p h;refine⟨(Ak 10 Q).1::is,by rw[h1];simp,?_⟩;rw[Hr hQ,IR];conv=>lhs;rw[Lv hf,h2]
    simp
   ·cases h
theorem U9(h:no 10 l)(hR:Bf Hz R=none):Ih (JY l++R)=some (l,R):=by
 unfold Ih JY;by_cases e:l=[]
 ·subst e;simp[hR]
 ·rw[if_neg e];have e2:Hz++32::(l++[10])++R=Hz++32::(l++10::R):=by simp
  rw[e2,Kr];simp only;rw[FU h];simp[e]
theorem VS{p:List UInt8×List UInt8}(h:Ih R=some p):R=JY p.1++p.2:=by
 unfold Ih at h;split at h
 ·have:=Option.some.inj h;subst this;simp[JY]
 ·rename_i Q hQ;split at h
  ·rename_i hf;have:=Option.some.inj h;subst this;unfold JY;rw[if_neg hf.2,Hr hQ];conv=>lhs;rw[Lv hf.1]
   simp
  ·cases h
theorem ZB(is:List (List UInt8)):is.length<=(Hq is).length:=by
 induction is with
 |nil=>simp
 |cons i is ih=>
  rw[IR];simp;omega
structure Ends(R:List UInt8):Prop where
 t:Bf Gh R=none
 d:Bf Hz R=none
 i:Bf En R=none
theorem Ends.nil:Ends []:=⟨by simp[Bf,Gh],by simp[Bf,Hz],by simp[Bf,En]⟩
theorem Ends.obj(Q:List UInt8):Ends (Fj++Q):=⟨by simp[Bf,Gh,Fj],by simp[Bf,Hz,Fj],by simp[Bf,En,Fj]⟩
theorem WT(is:List (List UInt8))(h:Ends R):Bf Hz (Hq is++R)=none:=by
 cases is with
 |nil=>exact h.d
 |cons i is=>rw[IR];simp[Bf,En,Hz]
theorem Vx(h:GO d)(hR:Ends R):Dg (oX d++R)=some (d,R):=by
 have e:oX d++R=Fj++32::((dc d.id++Lq (DZ d).tail)++10::(JY d.data++(Hq d.jA++R))):=by
  show Fj++Lq (dc d.id::(DZ d).tail)++10::(JY d.data++Hq d.jA)++R=_;rw[Fe];simp
 have n32:∀x∈dc d.id::(DZ d).tail,no 32 x:=Mm (by decide) (by decide) (by decide) d;have n10:∀x∈dc d.id::(DZ d).tail,no 10 x:=Mm (by decide) (by decide) (by decide) d;rw[e];unfold Dg;rw[Kr];simp only;rw[FU (Nq (by decide) n10)];simp only[if_true];rw[Kl n32];show(match LP (DZ d)with|none=>none|some o=>match Ih (JY d.data++(Hq d.jA++R))with|none=>none|some dd=>match JG (dd.2.length+1) [] dd.2 with|none=>none|some i=>some ({o with data:=dd.1,jA:=i.1},i.2))=_;rw[(Re h).2,U9 h.data (WT d.jA hR)];simp only;rw[Rf d.jA _ [] R h.jA (by have:=ZB d.jA;simp;omega) hR.i];simp
theorem PI{p:OD×List UInt8}(h:Dg R=some p):R=oX p.1++p.2:=by
 unfold Dg at h;split at h
 ·cases h
 ·rename_i Q hQ;split at h
  ·rename_i hf;split at h
   ·cases h
   ·rename_i o ho;split at h
    ·cases h
    ·rename_i dd hd;split at h
     ·cases h
     ·rename_i ii hi;have:=Option.some.inj h;subst this;obtain⟨is,h1,h2⟩:=Rr _ _ _ ii hi;obtain⟨hw,_,_⟩:=Xb ho;have s:=Ue hw;have e1:=VS hd;have e3:ii.1=is:=(by simpa using h1);rw[Hr hQ];conv=>lhs;rw[Lv hf,e1,h2]
      show _=Fj++Lq (DZ o)++10::(JY dd.1++Hq ii.1)++ii.2;rw[<-s,e3];simp
  ·cases h
theorem Uj(os:List OD):Ends (os.map oX).flatten:=by
 cases os with
 |nil=>exact Ends.nil
 |cons o os=>
  have:((o::os).map oX).flatten=Fj++(Lq (DZ o)++10::(JY o.data++Hq o.jA)++(os.map oX).flatten):=by simp[oX]
  rw[this];exact Ends.obj _
theorem cU(o:OD)(R:List UInt8):oX o++R≠[]:=by simp[oX,Fj]
theorem RP:∀(os:List OD) (n:Nat) (acc:List OD),(∀d∈os,GO d)->os.length<n->JM n acc (os.map oX).flatten=some (acc++os)
 |[],n,acc,_,hn=>by
  obtain⟨m,rfl⟩:∃m,n=m+1:=⟨n-1,by simp at hn;omega⟩;simp[JM]
 |d::os,n,acc,hg,hn=>by
  obtain⟨m,rfl⟩:∃m,n=m+1:=⟨n-1,by simp at hn;omega⟩;rw[List.map_cons,List.flatten_cons];unfold JM;rw[if_neg (cU d _),Vx (hg d (List.mem_cons_self ..)) (Uj os)];simp only;rw[RP os m (acc++[d]) (fun x hx=>hg x (List.mem_cons_of_mem _ hx)) (by simp at hn;omega)];simp
theorem QK:∀(n:Nat) (acc:List OD) (R:List UInt8) (os:List OD),JM n acc R=some os->∃more,os=acc++more/\R=(more.map oX).flatten
 |0,_,_,_,h=>by simp[JM]at h
 |n+1,acc,R,os,h=>by
  unfold JM at h;split at h
  ·rename_i e;have:=Option.some.inj h;subst this;exact⟨[],by simp,by simp[e]⟩
  ·split at h
   ·cases h
   ·rename_i p hp;obtain⟨more,h1,h2⟩:=QK n _ _ os h;refine⟨p.1::more,by rw[h1];simp,?_⟩;rw[PI hp,h2];simp
theorem RY{f:α->List UInt8}(hf:∀x,1<=(f x).length)(l:List α):l.length<=(l.map f).flatten.length:=by
 induction l with
 |nil=>simp
 |cons x l ih=>
  have:=hf x;simp only[List.map_cons,List.flatten_cons,List.length_append,List.length_cons];omega
theorem Yz(d:TD):1<=(tX d).length:=by simp[tX];omega
theorem ZJ(d:OD):1<=(oX d).length:=by simp[oX];omega
theorem Qw(h:AW (Dd ts os)=true):Ie (ae ts os)=some (ts,os):=by
 unfold Ie ae;rw[Qx ts _ [] _ (Yq h) (by have:=RY Yz ts;rw[List.length_append];omega) (Uj os).t];simp only[List.nil_append];rw[RP os _ [] (YZ h) (by have:=RY ZJ os;omega)];simp[h]
theorem IM{L:List UInt8}{p:List TD×List OD}(h:Ie L=some p):AW (Dd p.1 p.2)=true/\L=ae p.1 p.2:=by
 unfold Ie at h;split at h
 ·cases h
 ·rename_i q hq;split at h
  ·cases h
  ·rename_i os ho;split at h
   ·rename_i hk;have:=Option.some.inj h;subst this;refine⟨hk,?_⟩;obtain⟨m1,h1,h2⟩:=QF _ _ _ q hq;obtain⟨m2,h3,h4⟩:=QK _ _ _ os ho;have e1:q.1=m1:=(by simpa using h1);have e2:os=m2:=(by simpa using h3);rw[h2,h4,ae,e1,e2]
   ·cases h
theorem Lg:∀(n m:Nat) (ts:List TD) (os:List OD) (R:List UInt8),R.length<n->R.length<m->Ja n ts os R=Ja m ts os R
 |0,_,_,_,_,h,_=>by omega
 |_,0,_,_,_,_,h=>by omega
 |n+1,m+1,ts,os,R,h1,h2=>by
  unfold Ja;by_cases e:R=[]
  ·rw[if_pos e,if_pos e]
  ·rw[if_neg e,if_neg e];by_cases f:(Ak 10 R).2.2=true
   ·rw[if_pos f,if_pos f];cases hl:Ka ts os (Ak 10 R).1 with
    |none=>rfl
    |some p=>
     have:=I6 f;exact Lg n m p.1 p.2 _ (by omega) (by omega)
   ·rw[if_neg f,if_neg f]
def Dr(ts:List TD)(os:List OD)(R:List UInt8):Option (List TD×List OD):=Ja (R.length+1) ts os R
theorem QP(ts:List TD)(os:List OD):Dr ts os []=some (ts,os):=by simp[Dr,Ja]
theorem Jy{ts':List TD}{os':List OD}(h:no 10 l)(hl:Ka ts os l=some (ts',os')):Dr ts os (l++10::R)=Dr ts' os' R:=by
 show Ja ((l++10::R).length+1) ts os _=Ja (R.length+1) ts' os' R;rw[Ja,if_neg (by simp),FU h];simp only[if_true];rw[hl];simp only;exact Lg (l++10::R).length (R.length+1) ts' os' R (by rw[List.length_append,List.length_cons];omega) (Nat.lt_succ_self _)
theorem Ip(h:W=Gh∨W=Fj∨W=Hz∨W=En):no 32 W/\no 10 W:=by
 rcases h with rfl|rfl|rfl|rfl<;>(constructor<;>(unfold no;decide))
theorem Mg{T:List UInt8}(h:no 32 W):Ak 32 (W++32::T)=(W,T,true):=FU h T
theorem SI{a:List UInt8}(h1:no c a)(h2:no c b):no c (a++b):=fun x hx=>(List.mem_append.1 hx).elim (h1 x) (h2 x)
theorem Ws(h:no 10 b):no 10 (32::b):=fun x hx=>(List.mem_cons.1 hx).elim (fun e=>by subst e;decide) (h x)
theorem Yc{d:TD}(h:GT d)(R:List UInt8):Dr ts os (tX d++R)=Dr (ts++[d]) os R:=by
 have n32:∀x∈dc d.id::(EZ d).tail,no 32 x:=Me (by decide) (by decide) (by decide) d;have n10:∀x∈dc d.id::(EZ d).tail,no 10 x:=Me (by decide) (by decide) (by decide) d;have e:tX d++R=(Gh++32::(dc d.id++Lq (EZ d).tail))++10::R:=by
  show Gh++Lq (dc d.id::(EZ d).tail)++[10]++R=_;rw[Fe];simp
 rw[e];refine Jy (SI (Ip (.inl rfl)).2 (Ws (Nq (by decide) n10))) ?_;unfold Ka;rw[Mg (Ip (.inl rfl)).1];simp only;rw[Kl n32,if_pos ⟨trivial,by show 4<=(EZ d).length;simp[EZ]⟩];show some (ts++[Qb (EZ d)],os)=_;rw[(Qy h).1]
theorem Od(os:List OD)(o:OD)(f:OD->OD):Ia (os++[o]) f=os++[f o]:=by simp[Ia]
theorem Xy{o:OD}(h:no 10 l)(ho:o.data=[])(R:List UInt8):Dr ts (os++[o]) (JY l++R)=Dr ts (os++[{o with data:=l}]) R:=by
 unfold JY;by_cases e:l=[]
 ·subst e;rw[if_pos rfl];have:({o with data:=[]}:OD)=o:=by rw[<-ho]
  rw[this];rfl
 ·rw[if_neg e];have e:Hz++32::(l++[10])++R=(Hz++32::l)++10::R:=by simp
  rw[e];refine Jy (SI (Ip (.inr (.inr (.inl rfl)))).2 (Ws h)) ?_;unfold Ka;rw[Mg (Ip (.inr (.inr (.inl rfl)))).1];simp only;rw[if_neg (fun hh=>absurd hh.1 (by decide)),if_neg (fun hh=>absurd hh.1 (by decide)),if_pos ⟨trivial,by simp⟩,Od]
theorem Rx:∀(is:List (List UInt8)) (o:OD) (R:List UInt8),(∀i∈is,no 10 i)->Dr ts (os++[o]) (Hq is++R)=Dr ts (os++[{o with jA:=o.jA++is}]) R
 |[],o,R,_=>by simp[Pp]
 |i::is,o,R,h=>by
  have hi:=h i (List.mem_cons_self ..);have e:Hq (i::is)++R=(En++32::i)++10::(Hq is++R):=by rw[IR];simp
  rw[e,Jy (ts':=ts) (os':=os++[{o with jA:=o.jA++[i]}]) (SI (Ip (.inr (.inr (.inr rfl)))).2 (Ws hi)),Rx is _ R (fun x hx=>h x (List.mem_cons_of_mem _ hx))]
  ·simp
  ·unfold Ka;rw[Mg (Ip (.inr (.inr (.inr rfl)))).1];simp only;rw[if_neg (fun hh=>absurd hh.1 (by decide)),if_neg (fun hh=>absurd hh.1 (by decide)),if_neg (fun hh=>absurd hh.1 (by decide)),if_pos ⟨trivial,by simp⟩,Od]
theorem Xm(h:GO d)(R:List UInt8):Dr ts os (oX d++R)=Dr ts (os++[d]) R:=by
 have n32:∀x∈dc d.id::(DZ d).tail,no 32 x:=Mm (by decide) (by decide) (by decide) d;have n10:∀x∈dc d.id::(DZ d).tail,no 10 x:=Mm (by decide) (by decide) (by decide) d;have e:oX d++R=(Fj++32::(dc d.id++Lq (DZ d).tail))++10::(JY d.data++(Hq d.jA++R)):=by
  show Fj++Lq (dc d.id::(DZ d).tail)++10::(JY d.data++Hq d.jA)++R=_;rw[Fe];simp
 rw[e,Jy (ts':=ts) (os':=os++[{d with data:=[],jA:=[]}]) (SI (Ip (.inr (.inl rfl))).2 (Ws (Nq (by decide) n10))),Xy h.data rfl,Rx d.jA _ R h.jA]
 ·simp
 ·unfold Ka;rw[Mg (Ip (.inr (.inl rfl))).1];simp only;rw[Kl n32,if_neg (fun hh=>absurd hh.1 (by decide)),if_pos ⟨trivial,by show 5<=(DZ d).length;simp[DZ]⟩];show some (ts,os++[Qk (DZ d)])=_;rw[(Re h).1]
theorem Og:∀(more ts:List TD) (R:List UInt8),(∀d∈more,GT d)->Dr ts os ((more.map tX).flatten++R)=Dr (ts++more) os R
 |[],ts,R,_=>by simp
 |d::more,ts,R,h=>by
  rw[List.map_cons,List.flatten_cons,List.append_assoc,Yc (h d (List.mem_cons_self ..)),Og more _ R (fun x hx=>h x (List.mem_cons_of_mem _ hx))];simp
theorem N9:∀(more os:List OD),(∀d∈more,GO d)->Dr ts os (more.map oX).flatten=some (ts,os++more)
 |[],os,_=>by simp[QP]
 |d::more,os,h=>by
  rw[List.map_cons,List.flatten_cons,Xm (h d (List.mem_cons_self ..)),N9 more _ (fun x hx=>h x (List.mem_cons_of_mem _ hx))];simp
theorem Vr(h:AW (Dd ts os)=true):Dr [] [] (ae ts os)=some (ts,os):=by
 unfold ae;rw[Og ts [] _ (Yq h),N9 os [] (YZ h)];simp
def KY(L:List UInt8):Option (List TD×List OD):=match Dr [] [] L with
 |none=>none
 |some p=>if L≠[]/\(By (Dd p.1 p.2)).data.toList=L then some p else none
theorem ZH(h:AW (Dd ts os)=true):ae ts os≠[]:=fun e=>by
 have h1:1<=ts.length:=(Mf h).1;have h2:=RY Yz ts;have:=congrArg List.length e;unfold ae at this;rw[List.length_append]at this;simp only[List.length_nil]at this;omega
theorem Uf(L:List UInt8):KY L=Ie L:=by
 unfold KY;cases e:Ie L with
 |some p=>
  obtain⟨h1,h2⟩:=IM e;rw[h2,Vr h1];simp only;rw[if_pos ⟨ZH h1,Jm h1⟩]
 |none=>
  split
  ·rfl
  ·rename_i p hp;split
   ·rename_i hh;by_cases hk:AW (Dd p.1 p.2)=true
    ·rw[Jm hk]at hh;rw[<-hh.2,Qw hk]at e;cases e
    ·rw[WW hk]at hh;exact absurd hh.2.symm hh.1
   ·rfl
open Go.Shelf
def Tryz.joinA_ren:Go.Shelf.Ren:=⟨fun|156=>70|165=>97|166=>69|169=>16|240=>96|241=>123|276=>122|277=>144|n=>n,fun|31=>49|9=>9|3=>3|4=>4|0=>0|20=>20|72=>39|76=>117|70=>37|37=>22|75=>116|127=>83|164=>155|5=>5|80=>53|n=>n,fun|n=>n⟩
theorem Tryz.joinA:Go.Proofs.Lays.n156 prog Tryz.joinA_ren:={
 mixed:=by kernel_rfl
 f156:=func70.trans (congrArg some (by kernel_rfl))
 f165:=func97.trans (congrArg some (by kernel_rfl))
 f166:=func69.trans (congrArg some (by kernel_rfl))
 f169:=func16.trans (congrArg some (by kernel_rfl))
 f240:=func96.trans (congrArg some (by kernel_rfl))
 f241:=func123.trans (congrArg some (by kernel_rfl))
 f276:=func122.trans (congrArg some (by kernel_rfl))
 f277:=func144.trans (congrArg some (by kernel_rfl))
 t0:=underlying0
 a0:=isAgg0
 z0:=sizeOf0
 v0:=zeroValue0
 t3:=underlying3
 a3:=isAgg3
 z3:=sizeOf3
 v3:=zeroValue3
 t4:=underlying4
 a4:=isAgg4
 z4:=sizeOf4
 v4:=zeroValue4
 t9:=underlying9
 a9:=isAgg9
 z9:=sizeOf9
 v9:=zeroValue9
 t20:=underlying20
 a20:=isAgg20
 z20:=sizeOf20
 v20:=zeroValue20
 t31:=underlying49
 a31:=isAgg49
 z31:=sizeOf49
 v31:=zeroValue49
 t37:=underlying22
 a37:=isAgg22
 z37:=sizeOf22
 v37:=zeroValue22
 t70:=underlying37
 a70:=isAgg37
 z70:=sizeOf37
 v70:=zeroValue37
 t72:=underlying39
 a72:=isAgg39
 z72:=sizeOf39
 v72:=zeroValue39
 t75:=underlying116
 a75:=isAgg116
 z75:=sizeOf116
 v75:=zeroValue116
 t76:=underlying117
 a76:=isAgg117
 z76:=sizeOf117
 v76:=zeroValue117
 t127:=underlying83
 a127:=isAgg83
 z127:=sizeOf83
 v127:=zeroValue83
 t164:=underlying155
 a164:=isAgg155
 z164:=sizeOf155
 v164:=zeroValue155}
def Tryz.bstrA_ren:Go.Shelf.Ren:=⟨fun|169=>16|n=>n,fun|70=>37|9=>9|0=>0|72=>39|37=>22|127=>83|3=>3|5=>5|n=>n,fun|n=>n⟩
theorem Tryz.bstrA:Go.Proofs.Lays.n169 prog Tryz.bstrA_ren:={
 mixed:=by kernel_rfl
 f169:=func16.trans (congrArg some (by kernel_rfl))
 t0:=underlying0
 a0:=isAgg0
 z0:=sizeOf0
 v0:=zeroValue0
 t3:=underlying3
 a3:=isAgg3
 z3:=sizeOf3
 v3:=zeroValue3
 t9:=underlying9
 a9:=isAgg9
 z9:=sizeOf9
 v9:=zeroValue9
 t37:=underlying22
 a37:=isAgg22
 z37:=sizeOf22
 v37:=zeroValue22
 t70:=underlying37
 a70:=isAgg37
 z70:=sizeOf37
 v70:=zeroValue37
 t72:=underlying39
 a72:=isAgg39
 z72:=sizeOf39
 v72:=zeroValue39
 t127:=underlying83
 a127:=isAgg83
 z127:=sizeOf83
 v127:=zeroValue83}
def Tryz.fmtA_ren:Go.Shelf.Ren:=⟨fun|173=>67|246=>93|283=>118|284=>119|285=>120|286=>121|129=>138|317=>140|318=>141|319=>142|320=>143|337=>152|338=>153|n=>n,fun|2=>2|3=>3|9=>9|4=>4|171=>150|0=>0|53=>132|37=>22|5=>5|173=>153|212=>173|51=>170|20=>20|213=>174|46=>134|232=>186|233=>187|n=>n,fun|17=>1|18=>3|19=>4|n=>n⟩
theorem Tryz.fmtA:Go.Proofs.LaysM.n173 prog Tryz.fmtA_ren:={
 mixed:=by kernel_rfl
 f129:=func138.trans (congrArg some (by kernel_rfl))
 f173:=func67.trans (congrArg some (by kernel_rfl))
 f246:=func93.trans (congrArg some (by kernel_rfl))
 f283:=func118.trans (congrArg some (by kernel_rfl))
 f284:=func119.trans (congrArg some (by kernel_rfl))
 f285:=func120.trans (congrArg some (by kernel_rfl))
 f286:=func121.trans (congrArg some (by kernel_rfl))
 f317:=func140.trans (congrArg some (by kernel_rfl))
 f318:=func141.trans (congrArg some (by kernel_rfl))
 f319:=func142.trans (congrArg some (by kernel_rfl))
 f320:=func143.trans (congrArg some (by kernel_rfl))
 f337:=func152.trans (congrArg some (by kernel_rfl))
 f338:=func153.trans (congrArg some (by kernel_rfl))
 t0:=underlying0
 a0:=isAgg0
 z0:=sizeOf0
 v0:=zeroValue0
 t2:=underlying2
 a2:=isAgg2
 z2:=sizeOf2
 v2:=zeroValue2
 t3:=underlying3
 a3:=isAgg3
 z3:=sizeOf3
 v3:=zeroValue3
 t4:=underlying4
 a4:=isAgg4
 z4:=sizeOf4
 v4:=zeroValue4
 t5:=underlying5
 a5:=isAgg5
 z5:=sizeOf5
 v5:=zeroValue5
 t9:=underlying9
 a9:=isAgg9
 z9:=sizeOf9
 v9:=zeroValue9
 t20:=underlying20
 a20:=isAgg20
 z20:=sizeOf20
 v20:=zeroValue20
 t37:=underlying22
 a37:=isAgg22
 z37:=sizeOf22
 v37:=zeroValue22
 t46:=underlying134
 a46:=isAgg134
 z46:=sizeOf134
 v46:=zeroValue134
 t51:=underlying170
 a51:=isAgg170
 z51:=sizeOf170
 v51:=zeroValue170
 t53:=underlying132
 a53:=isAgg132
 z53:=sizeOf132
 v53:=zeroValue132
 t171:=underlying150
 a171:=isAgg150
 z171:=sizeOf150
 v171:=zeroValue150
 t173:=underlying153
 a173:=isAgg153
 z173:=sizeOf153
 v173:=zeroValue153
 t212:=underlying173
 a212:=isAgg173
 z212:=sizeOf173
 v212:=zeroValue173
 t213:=underlying174
 a213:=isAgg174
 z213:=sizeOf174
 t232:=underlying186
 a232:=isAgg186
 z232:=sizeOf186
 v232:=zeroValue186
 t233:=underlying187
 a233:=isAgg187
 z233:=sizeOf187
 v233:=zeroValue187
 g17:=by kernel_rfl
 g18:=by kernel_rfl
 g19:=by kernel_rfl
 i0:=by kernel_rfl
 i2:=by kernel_rfl
 i3:=by kernel_rfl
 i4:=by kernel_rfl
 i5:=by kernel_rfl
 i9:=by kernel_rfl
 i20:=by kernel_rfl
 i37:=by kernel_rfl
 i46:=by kernel_rfl
 i51:=by kernel_rfl
 i53:=by kernel_rfl
 i171:=by kernel_rfl
 i173:=by kernel_rfl
 i212:=by kernel_rfl
 i232:=by kernel_rfl
 i233:=by kernel_rfl
 m17:=by kernel_rfl
 m18:=by kernel_rfl
 m19:=by kernel_rfl}
def Tryz.cloneA_ren:Go.Shelf.Ren:=⟨fun|316=>127|n=>n,fun|9=>9|3=>3|4=>4|37=>22|0=>0|127=>83|5=>5|n=>n,fun|n=>n⟩
theorem Tryz.cloneA:Go.Proofs.LaysM.n316 prog Tryz.cloneA_ren:={
 mixed:=by kernel_rfl
 f316:=func127.trans (congrArg some (by kernel_rfl))
 t0:=underlying0
 a0:=isAgg0
 z0:=sizeOf0
 v0:=zeroValue0
 t3:=underlying3
 a3:=isAgg3
 z3:=sizeOf3
 v3:=zeroValue3
 t4:=underlying4
 a4:=isAgg4
 z4:=sizeOf4
 v4:=zeroValue4
 t9:=underlying9
 a9:=isAgg9
 z9:=sizeOf9
 v9:=zeroValue9
 t37:=underlying22
 a37:=isAgg22
 z37:=sizeOf22
 v37:=zeroValue22
 t127:=underlying83
 a127:=isAgg83
 z127:=sizeOf83
 v127:=zeroValue83
 t5:=underlying5
 a5:=isAgg5
 z5:=sizeOf5
 v5:=zeroValue5
 i0:=by kernel_rfl
 i3:=by kernel_rfl
 i4:=by kernel_rfl
 i5:=by kernel_rfl
 i9:=by kernel_rfl
 i37:=by kernel_rfl
 i127:=by kernel_rfl}
theorem Tryz.Builder_Extra_169:Builder.Extra prog Tryz.bstrA_ren:={
 sizeBuilder:=by kernel_rfl
 liesBuilder:=by kernel_rfl
 t5:=underlying5
 a5:=isAgg5
 z5:=sizeOf5
 v5:=zeroValue5
 infoByte:=by kernel_rfl
 cellsByte:=by kernel_rfl
 sizeByte:=by kernel_rfl
 neB5:=by decide}
theorem Tryz.Builder_Extra_156:Builder.Extra prog Tryz.joinA_ren:={
 sizeBuilder:=by kernel_rfl
 liesBuilder:=by kernel_rfl
 t5:=underlying5
 a5:=isAgg5
 z5:=sizeOf5
 v5:=zeroValue5
 infoByte:=by kernel_rfl
 cellsByte:=by kernel_rfl
 sizeByte:=by kernel_rfl
 neB5:=by decide}
open Go.RowKit in
theorem Tryz.Builder_String_any(B b:Nat)(l:List UInt8)(w:World)(h:Lib.IsBuilder 39 5 B b (Lib.byteCells l) w)(hBw:B<=w.heap.size):
 Calls prog 16 #[.pointer (some ⟨b,0,none⟩)] w fun e w'=>e= .returned (.string ⟨l.toArray⟩)/\Below B w w':=Any.Builder_String_any Tryz.bstrA Tryz.Builder_Extra_169 B b l w h hBw
open Go.RowKit Go.Sort Go.Lib in
theorem Tryz.strconv_FormatInt_10(n:Int)(h0: -9223372036854775808<=n)(h1:n<=9223372036854775807)(w:World)(htab:Lib.TabIs prog w "internal/strconv.uint64pow10" .u64 Lib.pow10Tab):
 Calls prog 67 #[.int .i64 n,.int .i64 10] w fun e w'=>e= .returned (.string ⟨(Lib.itoa n).toArray⟩)/\∃k os,w'=grow (w.drewN k) os:=Any.strconv_FormatInt_10 Tryz.fmtA n h0 h1 w htab
open Go.RowKit in
theorem Tryz.strings_Join(bk o c:Nat)(xs:List ByteArray)(Lq:ByteArray)(w:World)
 (hcells:∀(j:Nat) x,xs[j]? =some x->w.cell? ⟨bk,o+j,none⟩=some (.string x))
 (hbk:bk<w.heap.size)(hN:xs.length<=140737488355328)(hcap:xs.length<=c)
 (hlen:(Lib.join (xs.map (·.data.toList)) Lq.data.toList).length<=140737488355328):
 Calls prog 70 #[.slice (some ⟨bk,o,none⟩) xs.length c,.string Lq] w fun e w'=>e= .returned (.string ⟨(Lib.join (xs.map (·.data.toList)) Lq.data.toList).toArray⟩)/\Below w.heap.size w w':=Any.strings_Join Tryz.joinA Tryz.Builder_Extra_156 bk o c xs Lq w hcells hbk hN hcap hlen
end Go.Proofs.YtblapfnglojgjaaGreatDoor
