import Derived.Lib.Bytealg
import Derived.Lib.IndexLaws
import Derived.Test.YtblapfnglojgjaaGreatDoorZ28k
set_option maxRecDepth 100000
set_option maxHeartbeats 16000000
namespace Go.Proofs.YtblapfnglojgjaaGreatDoor
open Go Go.RowKit Go.Deep Go.Maps Go.BigFrame Go.Shelf Go.Proofs.Tryz
theorem Sy{a b:ByteArray}(h:a.data.toList=b.data.toList):a=b:=by
 obtain⟨⟨x⟩⟩:=a;obtain⟨⟨y⟩⟩:=b;simp at h;rw[h]
theorem Xt(s:List UInt8)(t:Af):(⟨s.toArray⟩:ByteArray)++ByteArray.mk #[116,104,114,101,97,100,32]++⟨(dc t.id).toArray⟩++ByteArray.mk #[32]++⟨(lb t.b1 t.c1).toArray⟩++ByteArray.mk #[32]++⟨(lb t.b2 t.c2).toArray⟩++ByteArray.mk #[32]++⟨(dc t.made).toArray⟩++⟨(bl (AF t.own)).toArray⟩++ByteArray.mk #[10]=⟨(s++II t).toArray⟩:=by
 refine Sy ?_;rw[PE];simp[ByteArray.data_append,Gh]
theorem Xl(s:List UInt8)(o:Ae):(⟨s.toArray⟩:ByteArray)++ByteArray.mk #[111,98,106,101,99,116,32]++⟨(dc o.id).toArray⟩++ByteArray.mk #[32]++⟨(dc o.kind).toArray⟩++ByteArray.mk #[32]++⟨(dc o.up).toArray⟩++ByteArray.mk #[32]++⟨(lb o.b1 o.c1).toArray⟩++ByteArray.mk #[32]++⟨(lb o.b2 o.c2).toArray⟩++⟨(bl (AF o.own)).toArray⟩++ByteArray.mk #[10]=⟨(s++EV o []).toArray⟩:=by
 refine Sy ?_;rw[PR];simp[ByteArray.data_append,Fj,bl]
theorem XT(s:List UInt8)(d:ByteArray)(h:¬d.toList.isEmpty=true):(⟨s.toArray⟩:ByteArray)++ByteArray.mk #[100,97,116,97,32]++d++ByteArray.mk #[10]=⟨(s++Fl d).toArray⟩:=by
 refine Sy ?_;rw[Fl,if_neg h,GU];simp[ByteArray.data_append,Hz]
theorem Ra(s:List UInt8)(d:ByteArray):(⟨s.toArray⟩:ByteArray)++ByteArray.mk #[105,116,101,109,32]++d++ByteArray.mk #[10]=⟨(s++Dk [En,d.data.toList]).toArray⟩:=by
 refine Sy ?_;rw[GU];simp[ByteArray.data_append,En]
theorem Jn(k:AJ)(w:World)(hk:k.at w)(hw:k.wfs):
 Calls prog 8 #[k.val] w fun e w'=>e= .returned (.string (By k))/\Below w w w':=by
 have ED:∀args w,(callFunc 20 args).run prog w= .ok (.enter 20 args) w:=enters_of func20 (by kernel_rfl) rfl;have EX:∀args w,(callFunc 21 args).run prog w= .ok (.enter 21 args) w:=enters_of func21 (by kernel_rfl) rfl;have EL:∀args w,(callFunc 22 args).run prog w= .ok (.enter 22 args) w:=enters_of func22 (by kernel_rfl) rfl;have n4:Na #[.slice k.ta k.tn k.tk,.slice k.oa k.on k.ok]:=⟨⟩;have b0:Below w w (w.alloc (Obj.cells n4 27)):=CY w _;have A0:=Ai.new w (Obj.cells n4 27);have HK:=hid hk;have C1:=hid (MU k _ (hk.below b0) (fun i hi=>(hw i hi).1));unfold AJ.val at C1;unfold AJ.val;obtain⟨x0,x1⟩:=A0.two;clear hk hw;go_enter func8,ntmps8
 go_wp2_with fail
 refine C1.out.mono ?_;rintro e w1 ⟨rfl,hb1⟩;have A1:=A0.below hb1;have B1:=Ac b0 hb1;clear x0 x1 C1 A0 b0 hb1;cases t:AW k with
 |false=>
  have E:By k=ByteArray.mk #[]:=by simp[By,t]
  go_wp2;go_ret;exact⟨LY E.symm,B1⟩
 |true=>
 have KT:Hid (By k=⟨(CI k.T k.tn++Dj k.O k.on).toArray⟩):=hid (by rw[By,if_pos t]);have OK:=hid t;obtain⟨tn1,tn9,on2⟩:=Mf t;clear t;go_wp2;go_loopw [3,4] (fun s i wr=>∃q:Nat,q<=k.tn/\i= .int .i64 q/\s= .string ⟨(CI k.T q).toArray⟩/\Ai wr w (Obj.cells n4 27)/\Below w w wr) (fun _ i _=>k.tn-(intOf i).toNat)
 case atStart=>exact⟨0,Nat.zero_le _,rfl,rfl,A1,B1⟩
 case round=>
  clear A1 B1;obtain⟨q,hq,rfl,rfl,A,hB⟩:=hrel;by_cases hlt:q<k.tn
  ·obtain⟨tb,off,ea,hlt0,hcc⟩:=(HK.out.2.2.1.below hB) (by omega);rw[ea]at A;obtain⟨x0,x1⟩:=A.two;obtain⟨⟨q0,q1,q2,q3,q4,q5,q6⟩,ht⟩:=hcc q hlt;have i1:(q:Int)<(k.tn:Int):=(by omega);simp only[AH.val,AU.val]at q2 q4 q5;clear hcc;go_wp2;have n1:Na (k.T q):=⟨⟩;have bC:Below wr wr (wr.alloc (Obj.cells n1 47)):=CY wr _;have XV:=Ai.new wr (Obj.cells n1 47);have AV:=A.alloc (Obj.cells n1 47);have HTt:=hid (ht.below bC);have BV:=Ac hB bC;obtain⟨p1,p2,p3,p4,p5⟩:=IL (Ik OK hlt);have EQ:=hid (Xt (CI k.T q) (k.T q));rw[<-Jk]at EQ;have z0:(⟨(CI k.T q).toArray⟩:ByteArray).size<=10000:=(by rw[Cz,List.size_toArray];have:=IY (T:=k.T) (n:=q) (fun i hi=>Ik OK (by omega));omega);have z1:(⟨(dc (k.T q).id).toArray⟩:ByteArray).size<=4:=(by rw[Cz,List.size_toArray];exact Ec p1);have z2:(⟨(dc (k.T q).made).toArray⟩:ByteArray).size<=4:=(by rw[Cz,List.size_toArray];exact Ec p2);have z3:(⟨(lb (k.T q).b1 (k.T q).c1).toArray⟩:ByteArray).size<=200:=(by rw[Cz,List.size_toArray];exact IE p3);have z4:(⟨(lb (k.T q).b2 (k.T q).c2).toArray⟩:ByteArray).size<=200:=(by rw[Cz,List.size_toArray];exact IE p4);have z5:(⟨(bl (AF (k.T q).own)).toArray⟩:ByteArray).size<=50:=(by rw[Cz,List.size_toArray];have:=Lf (BF p5).2;rw[Ho]at this;have:=(BF p5).1;omega);have ow:∀i,i<(k.T q).own.n->small ((k.T q).own.h i):=fun i hi=>(BF p5).2 _ (List.mem_map.2 ⟨i,List.mem_range.2 hi,rfl⟩);have on10:=(BF p5).1;generalize hV:wr.alloc (Obj.cells n1 47)=V at *;have PD1:Hid (∀W,Below V V W->Calls prog 20 #[.int .i64 (k.T q).id] W fun e w'=>∃v,e= .returned v/\v= .string ⟨(dc (k.T q).id).toArray⟩/\Below W W w'):=hid (fun W hW=>(Qv _ W p1).mono fun e w' ⟨h1,h2⟩=>⟨_,h1,rfl,h2⟩);have PD2:Hid (∀W,Below V V W->Calls prog 20 #[.int .i64 (k.T q).made] W fun e w'=>∃v,e= .returned v/\v= .string ⟨(dc (k.T q).made).toArray⟩/\Below W W w'):=hid (fun W hW=>(Qv _ W p2).mono fun e w' ⟨h1,h2⟩=>⟨_,h1,rfl,h2⟩);have PX1:Hid (∀W,Below V V W->Calls prog 21 #[.agg #[.int .i64 (k.T q).b1,.slice (k.T q).c1.a (k.T q).c1.n (k.T q).c1.k]] W fun e w'=>∃v,e= .returned v/\v= .string ⟨(lb (k.T q).b1 (k.T q).c1).toArray⟩/\Below W W w'):=hid (fun W hW=>(WA _ (k.T q).c1 W (HTt.out.below hW).1 p3).mono fun e w' ⟨h1,h2⟩=>⟨_,h1,rfl,h2⟩);have PX2:Hid (∀W,Below V V W->Calls prog 21 #[.agg #[.int .i64 (k.T q).b2,.slice (k.T q).c2.a (k.T q).c2.n (k.T q).c2.k]] W fun e w'=>∃v,e= .returned v/\v= .string ⟨(lb (k.T q).b2 (k.T q).c2).toArray⟩/\Below W W w'):=hid (fun W hW=>(WA _ (k.T q).c2 W (HTt.out.below hW).2.1 p4).mono fun e w' ⟨h1,h2⟩=>⟨_,h1,rfl,h2⟩);have PB:Hid (∀W,Below V V W->Calls prog 22 #[.slice (k.T q).own.a (k.T q).own.n (k.T q).own.k] W fun e w'=>∃v,e= .returned v/\v= .string ⟨(bl (AF (k.T q).own)).toArray⟩/\Below W W w'):=hid (fun W hW=>(NM (k.T q).own W (HTt.out.below hW).2.2 ow (by omega)).mono fun e w' ⟨h1,h2⟩=>⟨_,h1,rfl,h2⟩);have HA:Hid (∀W,Below V V W->Ai W wr (Obj.cells n1 47)):=hid (fun W h=>XV.below h);have HKA:=hid AV;clear x0 x1 q0 q1 q2 q3 q4 q5 q6 ht XV AV p1 p2 p3 p4 p5 ow on10 bC hV A;generalize (⟨(CI k.T q).toArray⟩:ByteArray)=S at *;generalize (⟨(dc (k.T q).id).toArray⟩:ByteArray)=D1 at *;generalize (⟨(dc (k.T q).made).toArray⟩:ByteArray)=D2 at *;generalize (⟨(lb (k.T q).b1 (k.T q).c1).toArray⟩:ByteArray)=X1 at *;generalize (⟨(lb (k.T q).b2 (k.T q).c2).toArray⟩:ByteArray)=X2 at *;generalize (⟨(bl (AF (k.T q).own)).toArray⟩:ByteArray)=BL at *;refine cL (k.T q) wr S D1 D2 X1 X2 BL _ _ _ _ _ _ _ _ _ _ _ _ _ _ _ _ _ _ _ _ _ _ _ _ _ _ _ _ _ _ _ _ _ _ _ _ _ _ _ _ _ _ _ _ _ _ _ _ _ _ _ _ _ _ _ _ _ _ _ _ _ _ _ _ _ _ _ _ _ _ _ _ _ _ _ _ _ _ _ _ _ _ _ _ _ _ _ _ _ _ _ _ _ _ _ _ _ _ _ _ _ _ _ _ _ _ _ _ _ _ _ _ _ _ _ _ _ V _ (fun _ _ _ _ _ h=>h) ED EX EL HA PD1 PX1 PX2 PD2 PB (by omega) z1 z2 z3 z4 (by omega) ?_;intro W3 V3;have B3:=Ac BV V3;have A3:=HKA.out.below V3;rw[<-ea]at A3;clear HA HKA PD1 PD2 PX1 PX2 PB ea;go_wp2;exact⟨⟨q+1,by omega,by go_num,by rw[EQ.out],A3,B3⟩,by simp[intOf];omega⟩
  ·have i1:¬(q:Int)<(k.tn:Int):=(by omega);obtain rfl:q=k.tn:=by omega
   obtain⟨x0,x1⟩:=A.two;go_wp2;clear x0 x1;go_loopw [3,6] (fun s i wr=>∃q:Nat,q<=k.on/\i= .int .i64 q/\s= .string ⟨(CI k.T k.tn++Dj k.O q).toArray⟩/\Ai wr w (Obj.cells #[.slice k.ta k.tn k.tk,.slice k.oa k.on k.ok] 27)/\Below w w wr) (fun _ i _=>k.on-(intOf i).toNat)
   case atStart=>exact⟨0,Nat.zero_le _,rfl,by simp[Dj],A,hB⟩
   case round=>
    clear A hB i1 hlt hq;obtain⟨q,hq,rfl,rfl,A,hB⟩:=hrel;by_cases hlt:q<k.on
    ·obtain⟨ob,off,ea,hlt0,hcc⟩:=(HK.out.2.2.2.below hB) (by omega);rw[ea]at A;obtain⟨x0,x1⟩:=A.two;obtain⟨⟨q0,q1,q2,q3,q4,q5,q6,q7,q8,q9⟩,ht⟩:=hcc q hlt;have i1:(q:Int)<(k.on:Int):=(by omega);simp only[AH.val,AU.val,AX.val]at q4 q6 q7 q9;clear hcc;go_wp2;have n2:Na (k.O q):=⟨⟩;have bC:Below wr wr (wr.alloc (Obj.cells n2 51)):=CY wr _;have XV:=Ai.new wr (Obj.cells n2 51);have AV:=A.alloc (Obj.cells n2 51);have HTt:=hid (ht.below bC);have BV:=Ac hB bC;obtain⟨p1,p2,p3,p4,p5,p6,p7⟩:=Hn (Kj OK hlt);have y1:=Jw OK hlt;have y2:=MH OK hlt;obtain⟨s,hs⟩:∃s,s=CI k.T k.tn++Dj k.O q:=⟨_,rfl⟩;rw[<-hs];have HSS:=hid hs;have EQ:=hid (Xl s (k.O q));have sl:s.length<=2000000:=by
      have h1:=IY (T:=k.T) (n:=k.tn) (fun i hi=>Ik OK hi);have h2:=Rs OK hq;rw[hs,List.length_append];omega
     have sl2:(s++EV (k.O q) []).length<=2003000:=by
      have:=Oe (ks:=[]) (Kj OK hlt) y1 y2 (fun x hx=>by cases hx) (by simp);rw[List.length_append];omega
     have z0:(⟨s.toArray⟩:ByteArray).size<=2000000:=(by rw[Cz,List.size_toArray];exact sl);have z1:(⟨(dc (k.O q).id).toArray⟩:ByteArray).size<=4:=(by rw[Cz,List.size_toArray];exact Ec y1);have z2:(⟨(dc (k.O q).kind).toArray⟩:ByteArray).size<=4:=(by rw[Cz,List.size_toArray];exact Ec p7);have z6:(⟨(dc (k.O q).up).toArray⟩:ByteArray).size<=4:=(by rw[Cz,List.size_toArray];exact Ec y2);have z3:(⟨(lb (k.O q).b1 (k.O q).c1).toArray⟩:ByteArray).size<=200:=(by rw[Cz,List.size_toArray];exact IE p1);have z4:(⟨(lb (k.O q).b2 (k.O q).c2).toArray⟩:ByteArray).size<=200:=(by rw[Cz,List.size_toArray];exact IE p2);have z5:(⟨(bl (AF (k.O q).own)).toArray⟩:ByteArray).size<=50:=(by rw[Cz,List.size_toArray];have:=Lf (BF p3).2;rw[Ho]at this;have:=(BF p3).1;omega);have ow:∀i,i<(k.O q).own.n->small ((k.O q).own.h i):=fun i hi=>(BF p3).2 _ (List.mem_map.2 ⟨i,List.mem_range.2 hi,rfl⟩);have on10:=(BF p3).1;have n3:Na (k.O q):=⟨⟩;generalize hV:wr.alloc (Obj.cells n3 51)=V at *;have PD1:Hid (∀W,Below V V W->Calls prog 20 #[.int .i64 (k.O q).id] W fun e w'=>∃v,e= .returned v/\v= .string ⟨(dc (k.O q).id).toArray⟩/\Below W W w'):=hid (fun W hW=>(Qv _ W y1).mono fun e w' ⟨h1,h2⟩=>⟨_,h1,rfl,h2⟩);have PD2:Hid (∀W,Below V V W->Calls prog 20 #[.int .i64 (k.O q).kind] W fun e w'=>∃v,e= .returned v/\v= .string ⟨(dc (k.O q).kind).toArray⟩/\Below W W w'):=hid (fun W hW=>(Qv _ W p7).mono fun e w' ⟨h1,h2⟩=>⟨_,h1,rfl,h2⟩);have PD3:Hid (∀W,Below V V W->Calls prog 20 #[.int .i64 (k.O q).up] W fun e w'=>∃v,e= .returned v/\v= .string ⟨(dc (k.O q).up).toArray⟩/\Below W W w'):=hid (fun W hW=>(Qv _ W y2).mono fun e w' ⟨h1,h2⟩=>⟨_,h1,rfl,h2⟩);have PX1:Hid (∀W,Below V V W->Calls prog 21 #[.agg #[.int .i64 (k.O q).b1,.slice (k.O q).c1.a (k.O q).c1.n (k.O q).c1.k]] W fun e w'=>∃v,e= .returned v/\v= .string ⟨(lb (k.O q).b1 (k.O q).c1).toArray⟩/\Below W W w'):=hid (fun W hW=>(WA _ (k.O q).c1 W (HTt.out.below hW).1 p1).mono fun e w' ⟨h1,h2⟩=>⟨_,h1,rfl,h2⟩);have PX2:Hid (∀W,Below V V W->Calls prog 21 #[.agg #[.int .i64 (k.O q).b2,.slice (k.O q).c2.a (k.O q).c2.n (k.O q).c2.k]] W fun e w'=>∃v,e= .returned v/\v= .string ⟨(lb (k.O q).b2 (k.O q).c2).toArray⟩/\Below W W w'):=hid (fun W hW=>(WA _ (k.O q).c2 W (HTt.out.below hW).2.2.2.1 p2).mono fun e w' ⟨h1,h2⟩=>⟨_,h1,rfl,h2⟩);have PB:Hid (∀W,Below V V W->Calls prog 22 #[.slice (k.O q).own.a (k.O q).own.n (k.O q).own.k] W fun e w'=>∃v,e= .returned v/\v= .string ⟨(bl (AF (k.O q).own)).toArray⟩/\Below W W w'):=hid (fun W hW=>(NM (k.O q).own W (HTt.out.below hW).2.2.1 ow (by omega)).mono fun e w' ⟨h1,h2⟩=>⟨_,h1,rfl,h2⟩);have HA:Hid (∀W,Below V V W->Ai W wr (Obj.cells n3 51)):=hid (fun W h=>XV.below h);have HKA:=hid AV;have BW:=bC;have HIT:=hid (ht.2.1);have HP:=hid (And.intro p4 (And.intro p5 p6));have szwr:wr.heap.size<V.heap.size:=XV.lt;clear x0 x1 q0 q1 q2 q3 q4 q5 q6 q7 q8 q9 ht XV AV p1 p2 p3 p4 p5 p6 p7 y1 y2 ow on10 bC hV A hs;obtain⟨S3,hS3⟩:∃S3:ByteArray,S3=⟨(s++EV (k.O q) []).toArray⟩:=⟨_,rfl⟩;have HS3:=hid hS3;have z7:S3.size<=2003000:=(by rw[hS3,Cz,List.size_toArray];exact sl2);rw[<-hS3]at EQ;clear hS3 sl sl2;generalize (⟨s.toArray⟩:ByteArray)=S at *;generalize (⟨(dc (k.O q).id).toArray⟩:ByteArray)=D1 at *;generalize (⟨(dc (k.O q).kind).toArray⟩:ByteArray)=D2 at *;generalize (⟨(dc (k.O q).up).toArray⟩:ByteArray)=D3 at *;generalize (⟨(lb (k.O q).b1 (k.O q).c1).toArray⟩:ByteArray)=X1 at *;generalize (⟨(lb (k.O q).b2 (k.O q).c2).toArray⟩:ByteArray)=X2 at *;generalize (⟨(bl (AF (k.O q).own)).toArray⟩:ByteArray)=BL at *;refine cw (k.O q) wr S D1 D2 D3 X1 X2 BL _ _ _ _ _ _ _ _ _ _ _ _ _ _ _ _ _ _ _ _ _ _ _ _ _ _ _ _ _ _ _ _ _ _ _ _ _ _ _ _ _ _ _ _ _ _ _ _ _ _ _ _ _ _ _ _ _ _ _ _ _ _ _ _ _ _ _ _ _ _ _ _ _ _ _ _ _ _ _ _ _ _ _ _ _ _ _ _ _ _ _ _ _ _ _ _ _ _ _ _ _ _ _ _ _ _ _ _ _ _ _ _ _ _ _ _ _ V _ (fun _ _ _ _ _ h=>h) ED EX EL HA PD1 PD2 PD3 PX1 PX2 PB (by omega) z1 z2 z6 z3 z4 (by omega) ?_;intro W3 V3;have B3:=Ac BV V3;have A3:=HKA.out.below V3;have X3:=HA.out _ V3;rw[<-ea]at A3;rw[EQ.out];clear HA HKA PD1 PD2 PD3 PX1 PX2 PB ea EQ z0 z1 z2 z3 z4 z5 z6;obtain⟨x0,x1,x2,x3,x4,x5,x6,x7,x8,x9⟩:=X3.jE;have IT:Hid (∀(W:World),Below W3 W3 W->JF W (k.O q).jA.a (k.O q).jA.n (k.O q).jA.f):=hid (fun W h=>HIT.out.2.1.below (Ac BW (Ac V3 h)));have DONE:Hid (∀S4:ByteArray,S4=⟨(s++EV (k.O q) []++Fl (k.O q).data).toArray⟩->S4.size<=2003100/\∀j,j<=(k.O q).jA.n->(⟨(s++EV (k.O q) []++Fl (k.O q).data++Ek (k.O q).jA.f j).toArray⟩:ByteArray).size<=2004000):=hid (fun S4 h=>by
      have l1:(s++EV (k.O q) []).length<=2003000:=(by have:=z7;rw[HS3.out,Cz,List.size_toArray]at this;exact this);have l2:=Mo HP.out.1;refine⟨by rw[h,Cz,List.size_toArray,List.length_append];omega,fun j hj=>?_⟩;have l3:=LH (f:=(k.O q).jA.f) (n:=j) (fun i hi=>HP.out.2.2 i (by omega));have l4:=HP.out.2.1;rw[Cz,List.size_toArray,List.length_append,List.length_append];omega)
     have FINI:Hid ((⟨(s++EV (k.O q) []++Fl (k.O q).data++Ek (k.O q).jA.f (k.O q).jA.n).toArray⟩:ByteArray)=⟨(CI k.T k.tn++Dj k.O (q+1)).toArray⟩):=hid (by
      rw[HSS.out,Jq,objT];simp only[List.append_assoc])
     by_cases hd:(k.O q).data.toList.isEmpty=true
     ·have E4:Hid (S3=⟨(s++EV (k.O q) []++Fl (k.O q).data).toArray⟩):=hid (by rw[HS3.out,Fl,if_pos hd,List.append_nil]);go_wp2;obtain⟨d1,d2⟩:=DONE.out _ E4.out;rw[E4.out];have d2h:=hid d2;clear x0 x1 x2 x3 x4 x5 x6 x7 x8 x9 d1 d2;go_loop [3,8] (fun s' i=>∃j:Nat,j<=(k.O q).jA.n/\i= .int .i64 j/\s'= .string ⟨(s++EV (k.O q) []++Fl (k.O q).data++Ek (k.O q).jA.f j).toArray⟩) (fun _ i=>(k.O q).jA.n-(intOf i).toNat)
      case atStart=>exact⟨0,Nat.zero_le _,rfl,by simp[Ek]⟩
      case round=>
       obtain⟨j,hj,rfl,rfl⟩:=hrel;have hi8:=HP.out.2.1;obtain⟨x0,x1,x2,x3,x4,x5,x6,x7,x8,x9⟩:=X3.jE;by_cases hjl:j<(k.O q).jA.n
       ·obtain⟨ib,io,eia,hib,hci⟩:=IT.out _ (Below.refl _ _) (by omega);have c1:=hci j hjl;rw[eia]at x6;have j1:(j:Int)<((k.O q).jA.n:Int):=(by omega);have zz:=d2h.out j hj;have E5:=hid (Ra (s++EV (k.O q) []++Fl (k.O q).data++Ek (k.O q).jA.f j) ((k.O q).jA.f j));rw[List.append_assoc _ (Ek _ _),<-IX]at E5;have z8:=HP.out.2.2 j hjl;clear hci eia;generalize (⟨(s++EV (k.O q) []++Fl (k.O q).data++Ek (k.O q).jA.f j).toArray⟩:ByteArray)=S5 at *;generalize (k.O q).jA.f j=DJ at *;have lt0:(ByteArray.mk #[105,116,101,109,32]).size=5:=rfl;have lt1:(ByteArray.mk #[10]).size=1:=rfl;have r1:¬9223372036854775807<S5.size+(ByteArray.mk #[105,116,101,109,32]).size:=(by omega);have r2:¬9223372036854775807<(S5++ByteArray.mk #[105,116,101,109,32]).size+DJ.size:=(by rw[ByteArray.size_append];omega);have r3:¬9223372036854775807<(S5++ByteArray.mk #[105,116,101,109,32]++DJ).size+(ByteArray.mk #[10]).size:=(by simp only[ByteArray.size_append];omega);clear lt0 lt1;go_wp2;exact⟨⟨j+1,by omega,by go_num,by rw[E5.out]⟩,by simp[intOf];omega⟩
       ·have j1:¬(j:Int)<((k.O q).jA.n:Int):=(by omega);obtain rfl:j=(k.O q).jA.n:=by omega
        go_wp2;exact⟨⟨q+1,by omega,by go_num,by rw[FINI.out],A3,B3⟩,by simp[intOf];omega⟩
     ·have hd':(k.O q).data.toList.isEmpty=false:=(by simpa using hd);have E4:Hid (S3++ByteArray.mk #[100,97,116,97,32]++(k.O q).data++ByteArray.mk #[10]=⟨(s++EV (k.O q) []++Fl (k.O q).data).toArray⟩):=hid (by rw[HS3.out];exact XT _ _ hd);have hp4:=HP.out.1;have lt0:(ByteArray.mk #[100,97,116,97,32]).size=5:=rfl;have lt1:(ByteArray.mk #[10]).size=1:=rfl;have r1:¬9223372036854775807<S3.size+(ByteArray.mk #[100,97,116,97,32]).size:=(by omega);have r2:¬9223372036854775807<(S3++ByteArray.mk #[100,97,116,97,32]).size+(k.O q).data.size:=(by rw[ByteArray.size_append];omega);have r3:¬9223372036854775807<(S3++ByteArray.mk #[100,97,116,97,32]++(k.O q).data).size+(ByteArray.mk #[10]).size:=(by simp only[ByteArray.size_append];omega);clear lt0 lt1 hp4;clear hd;go_wp2;clear r1 r2 r3;obtain⟨d1,d2⟩:=DONE.out _ E4.out;rw[E4.out];have d2h:=hid d2;clear x0 x1 x2 x3 x4 x5 x6 x7 x8 x9 d1 d2;go_loop [3,8] (fun s' i=>∃j:Nat,j<=(k.O q).jA.n/\i= .int .i64 j/\s'= .string ⟨(s++EV (k.O q) []++Fl (k.O q).data++Ek (k.O q).jA.f j).toArray⟩) (fun _ i=>(k.O q).jA.n-(intOf i).toNat)
      case atStart=>exact⟨0,Nat.zero_le _,rfl,by simp[Ek]⟩
      case round=>
       obtain⟨j,hj,rfl,rfl⟩:=hrel;have hi8:=HP.out.2.1;obtain⟨x0,x1,x2,x3,x4,x5,x6,x7,x8,x9⟩:=X3.jE;by_cases hjl:j<(k.O q).jA.n
       ·obtain⟨ib,io,eia,hib,hci⟩:=IT.out _ (Below.refl _ _) (by omega);have c1:=hci j hjl;rw[eia]at x6;have j1:(j:Int)<((k.O q).jA.n:Int):=(by omega);have zz:=d2h.out j hj;have E5:=hid (Ra (s++EV (k.O q) []++Fl (k.O q).data++Ek (k.O q).jA.f j) ((k.O q).jA.f j));rw[List.append_assoc _ (Ek _ _),<-IX]at E5;have z8:=HP.out.2.2 j hjl;clear hci eia;generalize (⟨(s++EV (k.O q) []++Fl (k.O q).data++Ek (k.O q).jA.f j).toArray⟩:ByteArray)=S5 at *;generalize (k.O q).jA.f j=DJ at *;have lt0:(ByteArray.mk #[105,116,101,109,32]).size=5:=rfl;have lt1:(ByteArray.mk #[10]).size=1:=rfl;have r1:¬9223372036854775807<S5.size+(ByteArray.mk #[105,116,101,109,32]).size:=(by omega);have r2:¬9223372036854775807<(S5++ByteArray.mk #[105,116,101,109,32]).size+DJ.size:=(by rw[ByteArray.size_append];omega);have r3:¬9223372036854775807<(S5++ByteArray.mk #[105,116,101,109,32]++DJ).size+(ByteArray.mk #[10]).size:=(by simp only[ByteArray.size_append];omega);clear lt0 lt1;go_wp2;exact⟨⟨j+1,by omega,by go_num,by rw[E5.out]⟩,by simp[intOf];omega⟩
       ·have j1:¬(j:Int)<((k.O q).jA.n:Int):=(by omega);obtain rfl:j=(k.O q).jA.n:=by omega
        go_wp2;exact⟨⟨q+1,by omega,by go_num,by rw[FINI.out],A3,B3⟩,by simp[intOf];omega⟩
    ·have i1:¬(q:Int)<(k.on:Int):=(by omega);obtain rfl:q=k.on:=by omega
     obtain⟨x0,x1⟩:=A.two;go_wp2;go_ret;exact⟨LY KT.out.symm,hB⟩
theorem Ib(s:ByteArray):s.toList.isEmpty=decide (s.size=0):=by
 rw[ByteArray.toList_eq];cases s with
 |mk a=>cases a with
  |mk l=>cases l<;>simp[ByteArray.size]
theorem Fq(s:ByteArray)(w:World)(hn:s.size<=maxLen):
 Calls prog 100 #[.string s] w fun e w'=>e= .returned (Di s.data.toList)/\Below w w w':=by
 unfold maxLen at hn;have kc:=fun(w:World) (s:ByteArray)=>Lib.run_convert_string_bytes (P:=prog) w 9 22 5 s underlying9 underlying22 underlying5;have he:=Ib s;by_cases h1:1<=s.size;rotate_left
 ·have h1':s.size=0:=by omega
  have e:=Rb h1;rw[h1']at he;simp only[decide_true]at he;go_enter func100,ntmps100
  go_wp2;exact bodyPost_ret (v:=Di s.data.toList) (by simp[results,Tryz.results100,go_sem,Di,CF,e]) rfl ⟨rfl,Below.refl _ _⟩
 have hn0:¬s.size=0:=by omega
 simp only[hn0,decide_false]at he;by_cases h2:s.size<=10;rotate_left
 ·have h2':(10:Int)<(s.size:Int):=by omega
  have e:=UK h2;go_enter func100,ntmps100
  go_wp2;exact bodyPost_ret (v:=Di s.data.toList) (by simp[results,Tryz.results100,go_sem,Di,CF,e]) rfl ⟨rfl,Below.refl _ _⟩
 have h2':¬(10:Int)<(s.size:Int):=by omega
 have hp:0<s.size:=by omega
 have hp':(0:Int)<(s.size:Int):=by omega
 by_cases h3:s.size<=1
 ·have h3':¬(1:Int)<(s.size:Int):=by omega
  have hyes:=Nx (s:=s) h1 h2 (fun _=> .inr h3);go_enter func100,ntmps100
  go_wp2_with fail
  have hB:=bytesWorld_below w 5 s;have hcell:∀(j:Nat) (hj:j<s.size),(Lib.bytesWorld w 5 s).cell? ⟨w,j,none⟩=some (.int .u8 (s[j].toNat:Int)):=fun j hj=>by
   rw[Lib.bytesWorld_cell w 5 s j hj];have e:s.data.toList.getD j 0=s[j]:=by
    rw[List.getD_eq_getElem?_getD,byte_at s j hj];rfl
   rw[e]
  generalize Lib.bytesWorld w 5 s=W at *;generalize grownCap w s.size 0 5=cp at *;go_loop [4,27] (fun n i=>∃k:Nat,k<=s.size/\i= .int .i64 k/\n= .int .i64 (Do (s.data.toList.take k))/\(∀(j:Nat) (hj:j<s.size),j<k->Bg s[j]=true)) (fun _ i=>s.size-(intOf i).toNat)
  case atStart=>exact⟨0,Nat.zero_le _,rfl,rfl,fun j _ hj=>by omega⟩
  case round=>
   obtain⟨k,hk,rfl,rfl,hall⟩:=hrel;have hv:=Ns s k hk h2 hall;have HV:Hid (k<s.size->∀h:k<s.size,Bg s[k]=true->(Do (s.data.toList.take (k+1)):Int)=(Do (s.data.toList.take k):Int)*10+((s[k].toNat:Int)-48)):=fun _ h hd=>Mi s k h hd;have HE:Hid (k=s.size->s.data.toList.take k=s.data.toList):=fun e=>by rw[e];exact List.take_of_length_le (by simp)
   have HA:Hid (∀(j:Nat) (hj:j<s.size),j<k->Bg s[j]=true):=hall;clear hall;generalize hg:Do (s.data.toList.take k)=v at *;have HG:Hid (Do (s.data.toList.take k)=v):=hg;clear hg;by_cases hlt:k<s.size
   ·have hki:(k:Int)<(s.size:Int):=(by omega);have hc:=hcell k hlt;clear hcell;by_cases d1:(s[k].toNat:Int)<48
    ·go_wp2;exact bodyPost_ret (v:=Di s.data.toList) (by simp[results,Tryz.results100,go_sem,Di,CF,FH hlt (Mh d1)]) rfl ⟨rfl,hB⟩
    ·by_cases d2:57<(s[k].toNat:Int)
     ·go_wp2;exact bodyPost_ret (v:=Di s.data.toList) (by simp[results,Tryz.results100,go_sem,Di,CF,FH hlt (Lu d2)]) rfl ⟨rfl,hB⟩
     ·have hd:=Kn d1 d2;have hb256:(s[k].toNat:Int)<256:=(by have:=s[k].toNat_lt;omega);go_wp2;go_round;case rel=>
       refine⟨k+1,by omega,by go_num,?_,fun j hj hjk=>?_⟩
       ·rw[HV.out hlt hlt hd]
       ·by_cases e:j=k
        ·subst e;exact hd
        ·exact HA.out j hj (by omega)
      case measure=>simp[intOf];omega
   ·have hki:¬(k:Int)<(s.size:Int):=(by omega);have ek:k=s.size:=(by omega);have e:=hyes (fun j hj=>HA j hj (by omega));have e2:=HE.out ek;have e3:Do s.data.toList=v:=(by rw[<-e2];exact HG.out);clear hyes HA HE HG HV hcell;go_wp2;exact bodyPost_ret (v:=Di s.data.toList) (by simp[results,Tryz.results100,go_sem,Di,CF,e,e3]) rfl ⟨rfl,hB⟩
 ·have h3':(1:Int)<(s.size:Int):=by omega
  by_cases hz:(s[0].toNat:Int)=48
  ·have e:=UP hp (Sw (c:=48) hz) h3;go_enter func100,ntmps100
   go_wp2;exact bodyPost_ret (v:=Di s.data.toList) (by simp[results,Tryz.results100,go_sem,Di,CF,e]) rfl ⟨rfl,Below.refl _ _⟩
  ·have hyes:=Nx (s:=s) h1 h2 (fun _=> .inl (SN (c:=48) hz));go_enter func100,ntmps100
   go_wp2_with fail
   have hB:=bytesWorld_below w 5 s;have hcell:∀(j:Nat) (hj:j<s.size),(Lib.bytesWorld w 5 s).cell? ⟨w,j,none⟩=some (.int .u8 (s[j].toNat:Int)):=fun j hj=>by
    rw[Lib.bytesWorld_cell w 5 s j hj];have e:s.data.toList.getD j 0=s[j]:=by
     rw[List.getD_eq_getElem?_getD,byte_at s j hj];rfl
    rw[e]
   generalize Lib.bytesWorld w 5 s=W at *;generalize grownCap w s.size 0 5=cp at *;go_loop [4,27] (fun n i=>∃k:Nat,k<=s.size/\i= .int .i64 k/\n= .int .i64 (Do (s.data.toList.take k))/\(∀(j:Nat) (hj:j<s.size),j<k->Bg s[j]=true)) (fun _ i=>s.size-(intOf i).toNat)
   case atStart=>exact⟨0,Nat.zero_le _,rfl,rfl,fun j _ hj=>by omega⟩
   case round=>
    obtain⟨k,hk,rfl,rfl,hall⟩:=hrel;have hv:=Ns s k hk h2 hall;have HV:Hid (k<s.size->∀h:k<s.size,Bg s[k]=true->(Do (s.data.toList.take (k+1)):Int)=(Do (s.data.toList.take k):Int)*10+((s[k].toNat:Int)-48)):=fun _ h hd=>Mi s k h hd;have HE:Hid (k=s.size->s.data.toList.take k=s.data.toList):=fun e=>by rw[e];exact List.take_of_length_le (by simp)
    have HA:Hid (∀(j:Nat) (hj:j<s.size),j<k->Bg s[j]=true):=hall;clear hall;generalize hg:Do (s.data.toList.take k)=v at *;have HG:Hid (Do (s.data.toList.take k)=v):=hg;clear hg;by_cases hlt:k<s.size
    ·have hki:(k:Int)<(s.size:Int):=(by omega);have hc:=hcell k hlt;clear hcell;by_cases d1:(s[k].toNat:Int)<48
     ·go_wp2;exact bodyPost_ret (v:=Di s.data.toList) (by simp[results,Tryz.results100,go_sem,Di,CF,FH hlt (Mh d1)]) rfl ⟨rfl,hB⟩
     ·by_cases d2:57<(s[k].toNat:Int)
      ·go_wp2;exact bodyPost_ret (v:=Di s.data.toList) (by simp[results,Tryz.results100,go_sem,Di,CF,FH hlt (Lu d2)]) rfl ⟨rfl,hB⟩
      ·have hd:=Kn d1 d2;have hb256:(s[k].toNat:Int)<256:=(by have:=s[k].toNat_lt;omega);go_wp2;go_round;case rel=>
        refine⟨k+1,by omega,by go_num,?_,fun j hj hjk=>?_⟩
        ·rw[HV.out hlt hlt hd]
        ·by_cases e:j=k
         ·subst e;exact hd
         ·exact HA.out j hj (by omega)
       case measure=>simp[intOf];omega
    ·have hki:¬(k:Int)<(s.size:Int):=(by omega);have ek:k=s.size:=(by omega);have e:=hyes (fun j hj=>HA j hj (by omega));have e2:=HE.out ek;have e3:Do s.data.toList=v:=(by rw[<-e2];exact HG.out);clear hyes HA HE HG HV hcell;go_wp2;exact bodyPost_ret (v:=Di s.data.toList) (by simp[results,Tryz.results100,go_sem,Di,CF,e,e3]) rfl ⟨rfl,hB⟩
theorem Qm(s:ByteArray)(c:UInt8)(w:World):
 Calls prog 154 #[.string s,.int .u8 c.toNat] w fun e w'=>e= .returned (.int .i64 (Lib.indexByte s.data.toList c))/\w'=w:=by
 go_enter func154,ntmps154
 go_wp2_with fail
 rw[run_callFunc_extern func159 (by kernel_rfl) (by kernel_rfl) (by kernel_rfl) (e:=Extern.BytealgIndexByte.indexByte) (by kernel_rfl),Lib.run_indexByteString];simp only[Result.andThen];rw[Oper.upon_value];go_wp2;go_ret;exact⟨rfl,rfl⟩
theorem WU(s:ByteArray)(c:UInt8)(w:World):
 Calls prog 145 #[.string s,.string ⟨#[c]⟩] w fun e w'=>e= .returned (.int .i64 (Lib.indexByte s.data.toList c))/\w'=w:=by
 cases hb:([c]==s.toList)with
 |true=>
  have e1:s.data.toList=[c]:=by
   have:[c]=s.toList:=(by simpa using hb);rw[<-ByteArray.toList_eq,<-this]
  go_enter func145,ntmps145
  go_wp2;go_ret;rw[e1];exact⟨by simp[Lib.indexByte],rfl⟩
 |false=>
  go_enter func145,ntmps145
  go_wp2_with(go_at_call 154;refine(Qm s c w).mono ?_;rintro e w' ⟨rfl,rfl⟩)
  go_ret;exact⟨rfl,rfl⟩
theorem Qu(L:List UInt8)(c:UInt8):(Lib.indexByte L c= -1/\Ak c L=(L,[],false))∨(∃k:Nat,Lib.indexByte L c=k/\k<L.length/\Ak c L=(L.take k,L.drop (k+1),true)):=by
 have hge:=Lib.indexByte_ge L c;by_cases h:Lib.indexByte L c= -1
 ·exact .inl ⟨h,RN c L (fun j _=>Lib.indexByte_none h j)⟩
 ·obtain⟨k,hk⟩:∃k:Nat,Lib.indexByte L c=k:=⟨(Lib.indexByte L c).toNat,by omega⟩;obtain⟨h1,h2⟩:=Lib.indexByte_some hk;have hlt:k<L.length:=by
   by_cases e:k<L.length
   ·exact e
   ·rw[List.getElem?_eq_none (by omega)]at h1;simp at h1
  exact .inr ⟨k,hk,hlt,UF c k L h2 h1⟩
theorem Tl(s:ByteArray)(c:UInt8)(w:World)(hn:s.size<=maxLen):
 Calls prog 125 #[.string s,.string ⟨#[c]⟩] w fun e w'=>e= .returned (cutV c s.data.toList)/\Below w w w':=by
 unfold maxLen at hn;have HI:=WU s c w;rcases Qu s.data.toList c with⟨hi,hc⟩|⟨k,hi,hk,hc⟩
 ·rw[hi]at HI;go_enter func125,ntmps125
  go_wp2_with(go_at_call 145;refine HI.mono ?_;rintro e w' ⟨rfl,rfl⟩)
  exact bodyPost_ret (v:=cutV c s.data.toList) (by simp[results,Tryz.results125,go_sem,cutV,hc]) rfl ⟨rfl,Below.refl _ _⟩
 ·rw[hi]at HI;have hk':k<s.size:=by simpa using hk
  have hki:(k:Int)<(s.size:Int):=by omega
  go_enter func125,ntmps125
  go_wp2_with fail
  refine HI.mono ?_;rintro e w' ⟨rfl,rfl⟩;clear HI;go_wp2_with fail
  go_quiet(fail)
  go_wp2;exact bodyPost_ret (v:=cutV c s.data.toList) (by simp[results,Tryz.results125,go_sem,cutV,hc,PF,Of]) rfl ⟨rfl,below_drewN (Below.refl _ _) _⟩
theorem Nu(s:ByteArray)(c:UInt8)(w:World)(hn:s.size<=maxLen):
 Calls prog 99 #[.string s,.string ⟨#[c]⟩] w fun e w'=>e= .returned (cutV c s.data.toList)/\Below w w w':=by
 go_enter func99,ntmps99
 go_wp2_with fail
 refine(Tl s c w hn).mono ?_;rintro e w' ⟨rfl,hb⟩;unfold cutV;go_wp2;exact bodyPost_ret (v:=cutV c s.data.toList) (by simp[results,Tryz.results99,go_sem,cutV]) rfl ⟨rfl,hb⟩
def Yl(p:List UInt8):Value:= .tuple #[.agg #[.int .i64 (if DO p=true then(LL p).1 else 0),.int .i64 (if DO p=true then(LL p).2 else 0)],.bool (DO p)]
theorem TR(s:ByteArray)(w:World)(hn:s.size<=maxLen):
 Calls prog 126 #[.string s] w fun e w'=>e= .returned (Yl s.data.toList)/\Below w w w':=by
 have n3:No (.cells #[.int .i64 0,.int .i64 0] 96):=⟨⟩;have L0:=(Below.refl _ w).alloc nr n3;have A0:=Ai.new w n3;have hn':s.data.toList.length<=maxLen:=by simpa using hn
 have s1:∀v,(Ak 58 s.data.toList).1=v->(⟨v.toArray⟩:ByteArray).size<=maxLen:=fun v hv=>by
  have:=Cs 58 s.data.toList;subst hv;simp[ByteArray.size];omega
 have s2:∀v,(Ak 58 s.data.toList).2.1=v->(⟨v.toArray⟩:ByteArray).size<=maxLen:=fun v hv=>by
  have:=Dc 58 s.data.toList;subst hv;simp[ByteArray.size];omega
 go_enter func126,ntmps126
 go_wp2_with fail
 refine(Nu s 58 _ hn).mono ?_;rintro e w1 ⟨rfl,hb1⟩;have E1:Below w w w1:=L0.trans (hb1.mono (by simp));have A1:=A0.below hb1;unfold cutV;go_wp2_with fail
 refine(Fq _ _ (s1 _ rfl)).mono ?_;rintro e w2 ⟨rfl,hb2⟩;have E2:Below w w w2:=E1.trans (hb2.mono E1.size);have A2:=A1.below hb2;unfold Di;go_wp2_with fail
 refine(Fq _ _ (s2 _ rfl)).mono ?_;rintro e w3 ⟨rfl,hb3⟩;have E3:Below w w w3:=E2.trans (hb3.mono E2.size);have A3:=A2.below hb3;unfold Di;obtain⟨x1,x2⟩:=A3.two;have f1:=A3.jQ 0;have f2:=A3.jQ 1;clear A0 A1 A2 hb1 hb2 hb3 E1 E2 L0;have hv:Yl s.data.toList= .tuple #[.agg #[.int .i64 (if (okD (Ak 58 s.data.toList).1&&okD (Ak 58 s.data.toList).2.1)=true then CF (Ak 58 s.data.toList).1 else 0),.int .i64 (if (okD (Ak 58 s.data.toList).1&&okD (Ak 58 s.data.toList).2.1)=true then CF (Ak 58 s.data.toList).2.1 else 0)],.bool (okD (Ak 58 s.data.toList).1&&okD (Ak 58 s.data.toList).2.1)]:=rfl;generalize okD (Ak 58 s.data.toList).1=o1 at *;generalize okD (Ak 58 s.data.toList).2.1=o2 at *;generalize CF (Ak 58 s.data.toList).1=n1 at *;generalize CF (Ak 58 s.data.toList).2.1=n2 at *;cases o1 with
 |false=>
  go_wp2;exact bodyPost_ret (v:=Yl s.data.toList) (by simp[results,Tryz.results126,go_sem,hv,x1,x2]) rfl ⟨rfl,(E3.setCell nr _).setCell nr _⟩
 |true=>
  cases o2 with
  |false=>
   go_wp2;exact bodyPost_ret (v:=Yl s.data.toList) (by simp[results,Tryz.results126,go_sem,hv,x1,x2]) rfl ⟨rfl,(E3.setCell nr _).setCell nr _⟩
  |true=>
   go_wp2;exact bodyPost_ret (v:=Yl s.data.toList) (by simp[results,Tryz.results126,go_sem,hv,x1,x2]) rfl ⟨rfl,(E3.setCell nr _).setCell nr _⟩
theorem CZ(l:List UInt8):(⟨l.toArray⟩:ByteArray).size=l.length:=by simp[ByteArray.size]
theorem Ta(s:ByteArray)(w:World)(hn:s.size<=1048576):
 Calls prog 101 #[.string s] w (Gg (Al s.data.toList) w):=by
 have hsl:s.data.toList.length<=1048576:=by simpa using hn
 have n3:Na #[.int .i64 0,.slice none 0 0]:=⟨⟩;have L0:=CY w (.cells n3 44);have Z0:=Ai.new w (.cells n3 44);have HR:Hid (Al s.data.toList=if okD (Ak 44 s.data.toList).1=true then U4 (CF (Ak 44 s.data.toList).1) (gather 12 (Ak 44 s.data.toList).2.1 (Ak 44 s.data.toList).2.2 [])else(0,[],false)):=rfl;have hl1:=Cs 44 s.data.toList;have hl2:=Dc 44 s.data.toList;generalize Al s.data.toList=res at *;go_enter func101,ntmps101
 go_wp2_with fail
 refine(Nu s 44 _ (by unfold maxLen;omega)).mono ?_;rintro e w1 ⟨rfl,hb1⟩;have L1:Below w w w1:=L0.trans (hb1.mono L0.size);have Z1:=Z0.below hb1;unfold cutV;generalize (Ak 44 s.data.toList).1=one at *;generalize (Ak 44 s.data.toList).2.1=rest0 at *;generalize (Ak 44 s.data.toList).2.2=more0 at *;clear L0 Z0 hb1;go_wp2_with fail
 refine(Fq _ _ (by rw[CZ];unfold maxLen;omega)).mono ?_;rintro e w2 ⟨rfl,hb2⟩;have L2:Below w w w2:=L1.trans (hb2.mono L1.size);have Z2:=Z1.below hb2;unfold Di;simp only at *;generalize CF one=base at *;cases ho:okD one with
 |false=>
  rw[ho]at HR;obtain⟨x1,x2⟩:=Z2.two;have f1:=Z2.jQ 0;have f2:=Z2.jQ 1;go_wp2;refine bodyPost_ret (v:= .tuple #[.agg n3,.bool false]) (by simp[results,Tryz.results101,go_sem,x1,x2]) rfl (Gg.no (by rw[HR.out];rfl) ((L2.setCell nr _).setCell nr _))
 |true=>
  rw[ho]at HR;have HR':Hid (res=U4 base (gather 12 rest0 more0 [])):=HR;clear HR ho;have HG0:∃G,gather 12 rest0 more0 []=G:=⟨_,rfl⟩;obtain⟨G,hG⟩:=HG0;rw[hG]at HR';have HG:Hid (gather 12 rest0 more0 []=G):=hG;clear hG;have n2:No (.cells #[.int .i64 base,.slice none 0 0] 44):=⟨⟩;have P3:=Ai.new w2 n2;have L3:Below w w (w2.alloc n2):=L2.alloc L2.size _;have Z3:=Z2.alloc n2;have sP:w.heap.size<w2.heap.size:=Z2.lt;go_wp2;go_loopw [5,6] (fun r m wr=>∃(R:List UInt8) (mo:Bool) (l:List (Int×Int)) (v:Value),r= .string ⟨R.toArray⟩/\m= .bool mo/\Hid (gather (12-l.length) R mo l=G)/\l.length<=12/\R.length<=1048576/\Ai wr w2 (.cells #[.int .i64 base,v] 44)/\An wr (w2.heap.size+1) v l/\Ai wr w (.cells n3 44)/\Below w w wr) (fun r m _=>KJ r+MW m)
  case atStart=>exact⟨rest0,more0,[],_,rfl,rfl,HG,by simp,by omega,P3,An.nil _ _,Z3,L3⟩
  case round=>
   obtain⟨R,mo,l,v,rfl,rfl,HGr,hl,hR,P,O,Z,Lr⟩:=hrel;clear HG P3 L3 Z3 L2 Z2 hb2 L1 Z1;obtain⟨p1,p2⟩:=P.two;obtain⟨va,vc,rfl⟩:=As.shape O;cases mo with
   |false=>
    rw[EF]at HGr;go_wp2_with fail
    refine(HY _ _ _ _ (Az l) (Ay l) _ (by unfold maxLen;omega) (As.cats O)).mono ?_;rintro e w4 ⟨rfl,hb4⟩;have Z4:=Z.below hb4;have P4:=P.below hb4;have O4:=O.below hb4;have L4:Below w w w4:=Lr.trans (hb4.mono Lr.size);clear p1 p2 P O Z Lr hb4;obtain⟨p1,p2⟩:=P4.two;obtain⟨z1,z2⟩:=Z4.two;have f1:=Z4.jQ 0;have f2:=Z4.jQ 1;cases hok:AO base l.length (Az l) (Ay l)with
    |false=>
     have er:Hid (res=(0,[],false)):=(by rw[HR'.out,<-HGr.out];simp[U4,hok]:res=(0,[],false));go_wp2;exact bodyPost_ret (v:= .tuple #[.agg #[.int .i64 0,.slice none 0 0],.bool false]) (by simp[results,Tryz.results101,go_sem,z1,z2]) rfl (Gg.no er ((L4.setCell nr _).setCell nr _))
    |true=>
     have er:Hid (res=(base,l,true)):=(by rw[HR'.out,<-HGr.out];simp[U4,hok]:res=(base,l,true));go_wp2;exact bodyPost_ret (v:= .tuple #[.agg #[.int .i64 base,.slice va l.length vc],.bool true]) (by simp[results,Tryz.results101,go_sem,z1,z2]) rfl (Gg.yes er (((O4.set (by omega) _ _).set (by omega) _ _).low (by omega)) ((L4.setCell nr _).setCell nr _))
   |true=>
    go_wp2_with fail
    refine(Nu _ 44 _ (by rw[CZ];unfold maxLen;omega)).mono ?_;rintro e w4 ⟨rfl,hb4⟩;have Z4:=Z.below hb4;have P4:=P.below hb4;have O4:=O.below hb4;have L4:Below w w w4:=Lr.trans (hb4.mono Lr.size);have hms:=M5 R;have hc1:=Cs 44 R;have hc2:=Dc 44 R;have HN:=fun n=>If n R l;have HBd:=fun n=>Ou n R l;unfold cutV;simp only at *;generalize (Ak 44 R).1=piece at *;generalize (Ak 44 R).2.1=R' at *;generalize (Ak 44 R).2.2=mo' at *;clear p1 p2 P O Z Lr hb4;go_wp2_with fail
    refine(TR _ _ (by rw[CZ];unfold maxLen;omega)).mono ?_;rintro e w5 ⟨rfl,hb5⟩;have Z5:=Z4.below hb5;have P5:=P4.below hb5;have O5:=O4.below hb5;have L5:Below w w w5:=L4.trans (hb5.mono L4.size);clear P4 O4 Z4 L4 hb5;unfold Yl;simp only at *;cases hcat:DO piece with
    |false=>
     have er:Hid (res=(0,[],false)):=(by rw[HR'.out,<-HGr.out,HBd _ hcat];rfl:res=(0,[],false));have n4:No (.cells #[.int .i64 0,.int .i64 0] 96):=⟨⟩;have Z6:=Z5.alloc n4;have L6:=L5.alloc L5.size n4;obtain⟨z1,z2⟩:=Z6.two;have f1:=Z6.jQ 0;have f2:=Z6.jQ 1;clear HN HBd;go_wp2;exact bodyPost_ret (v:= .tuple #[.agg #[.int .i64 0,.slice none 0 0],.bool false]) (by simp[results,Tryz.results101,go_sem,z1,z2]) rfl (Gg.no er ((L6.setCell nr _).setCell nr _))
    |true=>
     rcases hxy:LL piece with⟨x,y⟩;simp only at *;have n1:No (.cells #[.int .i64 x,.int .i64 y] 96):=⟨⟩;have Z6:=Z5.alloc n1;have P6:=P5.alloc n1;have L6:=L5.alloc L5.size n1;have C6:=Ai.new w5 n1;have O6:An _ _ _ l:=As.alloc O5 n1;obtain⟨p1,p2⟩:=P6.two;obtain⟨c1,c2⟩:=C6.two;by_cases h12:l.length=12
     ·have er:Hid (res=(0,[],false)):=(by rw[HR'.out,<-HGr.out,h12];rfl:res=(0,[],false));obtain⟨z1,z2⟩:=Z6.two;have f1:=Z6.jQ 0;have f2:=Z6.jQ 1;have h12':(l.length:Int)=12:=(by omega);clear HN HBd;go_wp2;exact bodyPost_ret (v:= .tuple #[.agg #[.int .i64 0,.slice none 0 0],.bool false]) (by simp[results,Tryz.results101,go_sem,z1,z2]) rfl (Gg.no er ((L6.setCell nr _).setCell nr _))
     ·have h12':¬(l.length:Int)=12:=(by omega);have HG2:Hid (gather (12-(l++[(x,y)]).length) R' mo' (l++[(x,y)])=G):=by
       show _=_;rw[<-HGr.out];obtain⟨q,hq⟩:∃q,12-l.length=q+1:=⟨12-l.length-1,by omega⟩;rw[hq,HN q hcat,hxy];congr 1;rw[List.length_append];simp;omega
      clear HN HBd HGr;have h12'':((l.length:Int)==12)=false:=(by simpa using h12');have s5:w2.heap.size+1<=w5.heap.size:=P5.lt;have HNE:Hid (some w2.heap.size≠(Value.slice va l.length vc).ownBlock):=fun e=>by have:=(World.ownsRow.lt O5 _ e.symm).1;omega
      have HO:Hid (An (w5.alloc n1) (w2.heap.size+1) (.slice va l.length vc) l):=O6;have hw4:w.heap.size<w2.heap.size:=sP;have pf0:=P6.jQ 1;have OC:Hid (Bi ((w5.alloc n1).alloc n1) (some ⟨w5.heap.size+1,0,none⟩) 1 (fun _=>x) (fun _=>y)):=by
       have sz:(w5.alloc n1).heap.size=w5.heap.size+1:=(by simp);have t:=Kp (w5.alloc n1) x y;rw[sz]at t;exact t
      go_wp2_with(at_builtin;go_loud (refine Cy _ rfl _ _ rfl (w2.heap.size+1) _ _ _ _ rfl (As.alloc HO _) _ 1 1 (fun _=>x) (fun _=>y) rfl OC (by omega) (by simp;omega) ?_;intro a' c' w' hown' hgrow' hat';have hZ':=(P6.alloc n1).grown hgrow' (HNE);obtain⟨q1,q2⟩:=hZ'.two;have pf:=hZ'.jQ 1))
      have hgN:Below w w w':=(L6.alloc (by simp;omega) _).grown hgrow' (by simp;omega) (fun j e=>by have:=(World.ownsRow.lt HO j e).1;omega);have Z7:=(Z6.alloc n1).grown hgrow' (fun e=>by have:=(World.ownsRow.lt HO _ e.symm).1;omega);go_roundw;case rel=>
       refine⟨R',mo',l++[(x,y)],_,rfl,rfl,HG2,by rw[List.length_append];simp;omega,by omega,hZ'.set1 _,(An.snoc hown').set (by omega) _ _,Z7.grown (Ck (Bs w' w2) 1 _) (by simp;omega),hgN.setCell (by dsimp only;omega) _⟩
      case measure=>
       have e1:KJ (.string ⟨R'.toArray⟩)=R'.length:=CZ R';have e2:KJ (.string ⟨R.toArray⟩)=R.length:=CZ R;have e3:MW (.bool mo')=if mo'=true then 1 else 0:=by cases mo'<;>rfl
       rw[e1,e2,e3];exact hms
end Go.Proofs.YtblapfnglojgjaaGreatDoor
