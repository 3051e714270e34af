import Derived.Test.YtblapfnglojgjaaGreatDoorZ32k
set_option maxRecDepth 100000
set_option maxHeartbeats 4000000
namespace Go.Proofs.YtblapfnglojgjaaGreatDoor
open Go Go.RowKit Go.Deep Go.Maps Go.Proofs.Tryz
def dt:Value->Nat
 | .slice _ n _=>n
 |_=>0
theorem Pk(l:List UInt8):(bytesOf l).toList.isEmpty=decide (l=[]):=by
 rw[Ib,Au];by_cases h:l=[]<;>simp[h]
theorem UM(P R:List UInt8)(h:P.length<=R.length):P.isPrefixOf R=decide (R.take P.length=P):=by
 rw[Bool.eq_iff_iff,List.isPrefixOf_iff_prefix,decide_eq_true_eq];constructor
 ·rintro⟨t,rfl⟩;simp
 ·intro e;exact⟨R.drop P.length,by conv=>lhs;rw[<-e]
                                   rw[e];conv=>lhs;lhs;rw[<-e]
                                   simp⟩
theorem XX(P R:List UInt8)(h:¬P.length<=R.length):P.isPrefixOf R=false:=by
 rw[<-Bool.not_eq_true,List.isPrefixOf_iff_prefix];exact fun e=>h e.length_le
theorem Qo(R P:List UInt8)(W:World):
 Calls prog 124 #[.string (bytesOf R),.string (bytesOf P)] W fun e W'=>e= .returned (.bool (P.isPrefixOf R))/\W'=W:=by
 have s1:=Au R;have s2:=Au P;by_cases h:P.length<=R.length
 ·have i1:((bytesOf P).size:Int)<=((bytesOf R).size:Int):=by rw[s1,s2];omega
  have ex:(bytesOf R).extract 0 (bytesOf P).size=bytesOf (R.take P.length):=by rw[PF,AM,s2];rfl
  have i2:(bytesOf P).size<=(bytesOf R).size:=by omega
  by_cases e:R.take P.length=P
  ·have et:Hid (P.isPrefixOf R=true):=hid (by rw[UM P R h];exact decide_eq_true e);rw[et.out];rw[e]at ex;clear s1 s2 e;go_enter func124,ntmps124
   go_wp2;go_ret;exact⟨rfl,rfl⟩
  ·have et:Hid (P.isPrefixOf R=false):=hid (by rw[UM P R h];exact decide_eq_false e);rw[et.out];have ne:((bytesOf (R.take P.length)).toList==(bytesOf P).toList)=false:=by
    rw[ByteArray.toList_eq,ByteArray.toList_eq,AM,AM];simpa using e
   clear s1 s2 e;go_enter func124,ntmps124
   go_wp2;go_ret;exact⟨rfl,rfl⟩
 ·have i1:¬((bytesOf P).size:Int)<=((bytesOf R).size:Int):=by rw[s1,s2];omega
  rw[XX P R h];clear s1 s2;go_enter func124,ntmps124
  go_wp2;go_ret;exact⟨rfl,rfl⟩
def ZU(P R:List UInt8):List UInt8:=if P.isPrefixOf R=true then R.drop P.length else R
theorem VK(R P:List UInt8)(W:World):
 Calls prog 98 #[.string (bytesOf R),.string (bytesOf P)] W fun e W'=>e= .returned (.tuple #[.string (bytesOf (ZU P R)),.bool (P.isPrefixOf R)])/\W'=W:=by
 have HP:=hid (Qo R P W);have s1:=Au R;have s2:=Au P;cases e:P.isPrefixOf R with
 |true=>
  have ea:ZU P R=R.drop P.length:=by unfold ZU;rw[if_pos e]
  have hl:P.length<=R.length:=by
   rw[List.isPrefixOf_iff_prefix]at e;exact e.length_le
  rw[ea];rw[e]at HP;have ex:(bytesOf R).extract (bytesOf P).size (bytesOf R).size=bytesOf (R.drop P.length):=by rw[Of,AM,s2];rfl
  have i2:((bytesOf P).size:Int)<=((bytesOf R).size:Int):=by rw[s1,s2];omega
  clear s1 s2 e ea hl;go_enter func98,ntmps98
  go_wp2_with fail
  refine HP.out.mono ?_;rintro e w1 ⟨rfl,rfl⟩;go_wp2;refine bodyPost_ret (v:= .tuple #[.string (bytesOf (R.drop P.length)),.bool true]) (by simp[results,Tryz.results98,go_sem]) rfl ⟨rfl,rfl⟩
 |false=>
  have ea:ZU P R=R:=by unfold ZU;rw[if_neg (by rw[e];decide)]
  rw[ea];rw[e]at HP;clear s1 s2 e ea;go_enter func98,ntmps98
  go_wp2_with fail
  refine HP.out.mono ?_;rintro e w1 ⟨rfl,rfl⟩;go_wp2;refine bodyPost_ret (v:= .tuple #[.string (bytesOf R),.bool false]) (by simp[results,Tryz.results98,go_sem]) rfl ⟨rfl,rfl⟩
theorem Qs(R P:List UInt8)(W:World):
 Calls prog 71 #[.string (bytesOf R),.string (bytesOf P)] W fun e W'=>e= .returned (.tuple #[.string (bytesOf (ZU P R)),.bool (P.isPrefixOf R)])/\W'=W:=by
 have HP:=hid (VK R P W);go_enter func71,ntmps71
 go_wp2_with fail
 refine HP.out.mono ?_;rintro e w1 ⟨rfl,rfl⟩;go_wp2;refine bodyPost_ret (v:= .tuple #[.string (bytesOf (ZU P R)),.bool (P.isPrefixOf R)]) (by simp[results,Tryz.results71,go_sem]) rfl ⟨rfl,rfl⟩
theorem Ke(rb:Nat)(R Wd:List UInt8)(W:World)(h2:Wd.length<=100)(hR:Iy W rb R):
 Calls prog 42 #[.pointer rb,.string (bytesOf Wd)] W fun e W'=>e= .returned (.bool (Bf Wd R).isSome)/\Iy W' rb ((Bf Wd R).getD R)/\W.grownBy W' (some rb):=by
 have c1:=Ai.one hR;have f1:=Ai.jC hR 0;have HB:=hid hR;have e1:(Bf Wd R).isSome=(Wd++[32]).isPrefixOf R:=by unfold Bf;split<;>rename_i h<;>simp[h]
 have e2:(Bf Wd R).getD R=ZU (Wd++[32]) R:=by unfold Bf ZU;split<;>simp
 rw[e1,e2];have HP:=hid (Qs R (Wd++[32]) W);have ep:bytesOf Wd++ByteArray.mk #[32]=bytesOf (Wd++[32]):=by
  apply ByteArray.ext;apply Array.ext';simp[bytesOf]
 have r1:¬9223372036854775807<(bytesOf Wd).size+(ByteArray.mk #[32]).size:=by rw[Au];show ¬9223372036854775807<Wd.length+1;omega
 clear hR e1 e2;generalize ZU (Wd++[32]) R=q at *;generalize (Wd++[32]).isPrefixOf R=f at *;go_enter func42,ntmps42
 go_wp2_with fail
 refine HP.out.mono ?_;rintro e w1 ⟨rfl,rfl⟩;go_wp2;go_ret;exact⟨rfl,Ai.jB (i:=0) HB _,Ck (Cm (Below.refl _ _) _) _ _⟩
theorem Xi(s:ByteArray)(w:World)(hn:s.size<=281474976710656):
 Calls prog 102 #[.string s] w fun e w'=>e= .returned (.string s)/\Below w w w':=by
 have hc:=fun v=>Go.Proofs.Any.stringslite_Clone Tryz.cloneA s v hn;change ∀v:World,Calls prog 127 #[.string s] v fun e w'=>e= .returned (.string s)/\Below v v w' at hc;go_enter func102,ntmps102
 go_wp2_with fail
 refine(hc _).mono ?_;rintro e w1 ⟨rfl,hb⟩;go_wp2;go_ret;exact⟨rfl,hb⟩
theorem UQ(u:TypeId)(pv:Value)(rb:Nat)(R:List UInt8)(W:World)(hL:R.length<=1048576)(hR:Iy W rb R)(hE:MR u pv W):
 Calls prog 76 #[.pointer rb] W fun e W'=>dK u pv rb W (Ak 10 R).2.2 (Ak 10 R).1 (Ak 10 R).2.1 e W':=by
 have U:=hid (Mn u pv rb R 10 W hL hR hE);have pl:=Cs 10 R;clear hR hE;generalize (Ak 10 R).1=p at *;generalize (Ak 10 R).2.1=q at *;generalize (Ak 10 R).2.2=f at *;go_enter func76,ntmps76
 go_wp2_with fail
 refine U.out.mono ?_;rintro e w1 (⟨hf,rfl,R1,G1⟩|⟨hf,rfl,G1⟩)
 ·have HF:=hid hf;clear hf;go_wp2_with fail
  refine(Xi (bytesOf p) w1 (by rw[Au];omega)).mono ?_;rintro e w2 ⟨rfl,hb2⟩;go_wp2;go_ret;exact Or.inl ⟨HF,rfl,R1.below hb2,AI G1 (Cm hb2 _)⟩
 ·unfold Be;go_wp2;exact⟨rfl,Or.inr ⟨hf,rfl,G1⟩⟩
def jn(ws:List (List UInt8)):List UInt8:=(ws.map fun w=>w++[32]).flatten
theorem Eh(w:List UInt8)(ws:List (List UInt8)):jn (w::ws)=w++32::jn ws:=by simp[jn]
theorem VV{w:List UInt8}(h:no 32 w)(ws:List (List UInt8)):Ak 32 (jn (w::ws))=(w,jn ws,true):=by rw[Eh];exact FU h _
theorem Zd:Ak 32 (jn [])=([],[],false):=rfl
theorem cy(w:List UInt8)(ws:List (List UInt8)):jn (w::ws)=w++Lq ws++[32]:=by
 induction ws generalizing w with
 |nil=>simp[jn,WO]
 |cons x r ih=>rw[Eh,ih x,Fe];simp
theorem Lx(P:List UInt8):P++[32]=jn (Aj P):=by
 obtain⟨w,ws,h1,h2⟩:=Rz P;rw[h1,cy,<-h2]
theorem VJ{ws:List (List UInt8)}:ws.length<=(jn ws).length:=by
 induction ws with
 |nil=>simp
 |cons w ws ih=>rw[Eh];simp;omega
theorem aJ(ws:List (List UInt8))(k:Nat):(jn (ws.drop k)).length<=(jn ws).length:=by
 induction ws generalizing k with
 |nil=>simp
 |cons w ws ih=>
  cases k with
  |zero=>simp
  |succ k=>rw[List.drop_succ_cons,Eh];have:=ih k;simp;omega
def cM(u:TypeId)(pv:Value)(rb:Nat)(W:World)(ws:List (List UInt8))(e:Ending)(W':World):Prop:=(ws.all okD=true/\∃a c,e= .returned (.slice a ws.length c)/\Bo W' W (.slice a ws.length c) (ws.map Bb)/\W.grownBy W' (some rb))∨(ws.all okD=false/\e=Be u pv/\W.grownBy W' (some rb))
theorem Nj(u:TypeId)(pv:Value)(rb:Nat)(ws:List (List UInt8))(W:World)(hL:(jn ws).length<=1048576)(hn:∀w∈ws,no 32 w)(hR:Iy W rb (jn ws))(hE:MR u pv W)(h0:rb≠0):
 Calls prog 75 #[.pointer rb] W fun e W'=>cM u pv rb W ws e W':=by
 have HE:=hid hE;have HN:=hid hn;have HR:=hid hR;have rlt:=Ai.lt hR;clear hE hn hR;go_enter func75,ntmps75
 go_wp2;go_loopw [3] (fun v wr=>∃(k:Nat) (a:Option Addr) (c:Nat),k<=ws.length/\v= .slice a k c/\Bo wr W v ((ws.take k).map Bb)/\Hid ((ws.take k).all okD=true)/\Iy wr rb (jn (ws.drop k))/\W.grownBy wr (some rb)) (fun v _=>ws.length-dt v)
 case atStart=>exact⟨0,none,0,Nat.zero_le _,rfl,by simpa using Bo.nil W W,hid (by simp),by simpa using HR.out,Cm (Below.refl _ _) _⟩
 case round=>
  obtain⟨k,a,c,hk,rfl,hO,HA,hR,hG⟩:=hrel;have OO:=hid hO;have RR:=hid hR;have GG:=hid hG;have c1:=Ai.one hR;have dl:=aJ ws k;clear hO hR hG HR;by_cases hlt:k<ws.length
  ·obtain⟨x,hx⟩:∃x,ws[k]? =some x:=⟨_,List.getElem?_eq_getElem hlt⟩;have ed:ws.drop k=x::ws.drop (k+1):=by
    rw[List.drop_eq_getElem_cons hlt];congr 1;rw[List.getElem?_eq_getElem hlt]at hx;exact Option.some.inj hx
   have nx:no 32 x:=HN.out x (List.mem_of_getElem? hx);have NB:=hid (Oj u pv rb (jn (ws.drop k)) wr (by omega) RR (HE.out.grown GG h0) h0);rw[ed,VV nx]at NB;have e0:(bytesOf (jn (ws.drop k))).toList.isEmpty=false:=by
    rw[Ib,Au,ed,Eh];simp
   have ET:Hid ((ws.take k).map Bb++[Bb x]=(ws.take (k+1)).map Bb):=hid (by rw[List.take_add_one,hx];simp);have EL:Hid (((ws.take k).map Bb).length=k):=hid (by simp;omega);have EA:Hid (okD x=true->(ws.take (k+1)).all okD=true):=hid (fun h=>by rw[List.take_add_one,hx,List.all_append,HA.out];simp[h]);have EB:Hid (okD x=false->ws.all okD=false):=hid (fun h=>by
    rw[List.all_eq_false];exact⟨x,List.mem_of_getElem? hx,by rw[h];decide⟩)
   have EM:Hid (okD x=true->Bb x=CF x):=hid (fun h=>by unfold Bb;rw[if_pos h]);have lm:((ws.take k).map Bb).length<=2000000:=(by rw[EL.out];have:=@VJ ws;omega);generalize (ws.take k).map Bb=l at *;clear ed nx hx HA;generalize jn (ws.drop k)=jk at *;go_wp2_with fail
   refine NB.out.mono ?_;rintro e w1 (⟨_,ho,rfl,R1,G1⟩|⟨ho,rfl,G1⟩)
   ·have ex:=EM.out ho;rw[<-ex];have OK1:=hid (EA.out ho);have o1:=hid (World.ownsRow.kept OO G1 (Or.inr (fun e=>by
     have:=(World.ownsRow.lt OO rb e).1;omega)))
    generalize Bb x=y at *;have O1:=hid (Bo.alloc o1 (.cells #[.int .i64 y] 2));have C1:=hid (Ss (w:=w1) y);have b1:=CY w1 (.cells #[.int .i64 y] 2);have G2:=hid (AI GG (AI G1 (Cm b1 _)));have R2:=hid (R1.below b1);have sz:=G2.out.size;clear NB OO RR R1 G1 b1 o1 EM EA EB ho ex c1;go_wp2_with(at_builtin;refine Ga _ rfl _ _ rfl W _ l rfl O1 _ 1 y rfl C1 lm sz ?_;intro g4 c4 w4 O4 G4;have OX:=hid O4;have GX:=hid G4;clear O4 G4)
    have nb:∀j,(Value.slice a k c).ownBlock=some j->W.heap.size<=j:=FY O1.out;have OF:=OX.out;rw[ET.out,EL.out]at OF;refine⟨⟨k+1,some ⟨g4,0,none⟩,c4,by omega,by rw[EL.out],by rw[EL.out];exact OF,OK1,Ai.grown R2 GX (fun e=>?_),?_⟩,?_⟩
    ·have:=nb rb (by first|exact e|exact e.symm);omega
    ·refine⟨GX.out.os.trans G2.out.os,GX.out.tape.trans G2.out.tape,GX.out.output.trans G2.out.output,Nat.le_trans G2.out.size GX.out.size,fun j hj hne=>?_⟩;exact(GX.out.block j (Nat.lt_of_lt_of_le hj sz) (fun e=>by have:=nb j (by first|exact e|exact e.symm);omega)).trans (G2.out.block j hj hne)
    ·show ws.length-(l.length+1)<ws.length-k;rw[EL.out];omega
   ·have eb:=EB.out (by simpa using ho);unfold Be;go_wp2;exact⟨rfl,Or.inr ⟨eb,rfl,AI GG G1⟩⟩
  ·have ek:ws.length=k:=(by omega);have ed:ws.drop k=[]:=List.drop_eq_nil_of_le (by omega);have et:ws.take k=ws:=List.take_of_length_le (by omega);rw[ed]at c1;have e0:(bytesOf (jn [])).toList.isEmpty=true:=(by rw[Pk];rfl);rw[et]at OO HA;go_wp2;go_ret;refine Or.inl ⟨HA,a,c,by rw[ek];rfl,by rw[ek];exact OO.out,GG⟩
end Go.Proofs.YtblapfnglojgjaaGreatDoor
