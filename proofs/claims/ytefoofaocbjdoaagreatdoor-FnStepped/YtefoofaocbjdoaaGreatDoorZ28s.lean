import Derived.Shelf.SlicesG.Delete
import Derived.Shelf.SlicesG.CompactI
import Derived.Ground.SlgnProg
import Derived.Test.YtefoofaocbjdoaaGreatDoorZ25s
import Derived.Test.YtefoofaocbjdoaaGreatDoorZ27s
set_option maxRecDepth 100000
set_option maxHeartbeats 16000000
namespace Go.Proofs.YtefoofaocbjdoaaGreatDoor
open Go Go.RowKit Go.Deep Go.Maps Go.BigFrame Go.Shelf Go.Proofs.Tryz
def Ks(w:World)(E:Nat->Addr):Prop:=∀i,i<14->i≠3->w.cell? ⟨i,0,none⟩=some (.iface 257 (.pointer (some (E i))))/\i<w.heap.size
theorem Ks.below{w w':World}{E:Nat->Addr}{B:Nat}(h:Ks w E)(hB:14<=B)(hb:Below B w w'):Ks w' E:=fun i h1 h2=>by
 obtain⟨a,b⟩:=h i h1 h2;exact⟨by rw[hb.cell (show i<B by omega)];exact a,Nat.lt_of_lt_of_le b hb.size⟩
def Told(w:World)(B:Nat)(E:Nat->Addr)(v:Value)(c:Int):Prop:=(c=0/\v= .nilIface)∨(c≠0/\∃r i,v= .iface 49 (.pointer (some ⟨r,0,none⟩))/\Ah w r (.cells #[.int .i64 c,.iface 257 (.pointer (some (E i)))] 54)/\i≠0/\i<14/\i≠3/\B<=r)
theorem Ew.setLab{w0 wr:World}{B P:Nat}{s:Al}{g ca q co:Nat}{lt:List Ae}{lo:List Ab}{t:Nat}{m:Value}(h0:Ew w0 B P s g ca q co lt lo t m)(h:Ew wr B P s g ca q co lt lo t m){b:Int}{d:Au}(ht:t<lt.length){X:Ae}(hX:X=lt[t])(hd:d.new w0 wr)(hB:B<=w0.heap.size):
 Ew ((wr.setCell ⟨g,t*7+1,none⟩ (.int .i64 b)).setCell ⟨g,t*7+2,none⟩ (.slice d.a d.n d.k)) B P s g ca q co (lt.set t ⟨X.id,b,d,X.b2,X.c2,X.own,X.made⟩) lo t m/\B<=g/\∃cur,Ah wr g (.cells cur 57):=by
 obtain⟨k1,⟨cur,hc⟩,hg⟩:=h.st.setLab (b:=b) ht hX (hd.low hB);have el:(lt.set t (⟨X.id,b,d,X.b2,X.c2,X.own,X.made⟩:Ae)).length=lt.length:=by simp
 have hn:X.cb.Nodup:=Dh (L:=lt.map Ae.cb) (t:=t) (by simp[ht,hX]) h.ap.c;have hi:X.own.bs.Nodup:=Dh (L:=lt.map fun x=>x.own.bs) (t:=t) (by simp[ht,hX]) h.ap.i;have hx:=h0.st.tn _ (List.getElem_mem ht);rw[<-hX]at hx;have hcb:(d.bs++X.c2.bs).Nodup:=List.perm_append_comm.nodup_iff.2 (Dg (M:=w0.heap.size) hx.2.1.bs.1 hd.bs.1 (fun x hx'=>(hx.2.1.bs.2 x hx').2) (fun x hx'=>(hd.bs.2 x hx').1));refine⟨⟨by rw[el];exact k1,h.ap.setT h0.st ht (x:=⟨X.id,b,d,X.b2,X.c2,X.own,X.made⟩) hcb (fun y hy=>?_) hi (fun y hy=> .inl (by rw[<-hX];exact hy)),by rw[el];exact(h.wk.other (Ne.symm h.setP.1) _).other (Ne.symm h.setP.1) _,h.lp⟩,hg,cur,hc⟩;rcases List.mem_append.1 hy with hy|hy
 ·exact .inr (hd.bs.2 y hy).1
 ·exact .inl (by rw[<-hX];exact List.mem_append.2 (.inr hy))
theorem Wa(E:Nat->Addr)(w:World)(B P:Nat)(s:Al)(g ca q co:Nat)(lt:List Ae)(lo:List Ab)(t:Nat)(m:Value)(h:Ew w B P s g ca q co lt lo t m)(he:Ks w E)(h14:14<=B)(hB:B<=w.heap.size)(hs:∀W,Below B w W->s.at W)(ht:t<lt.length)(X:Ae)(hX:X=lt[t])(f1 f2:Bool)
 (F1:∀W,Below w w W->Calls prog 118 #[.agg #[X.b1,X.c1],X.own,.agg #[s.b1,s.c1]] W fun e w'=>e= .returned (.bool f1)/\Below W W w')
 (F2:∀W,Below w w W->Calls prog 118 #[.agg #[s.b1,s.c1],X.own,.agg #[X.b2,X.c2]] W fun e w'=>e= .returned (.bool f2)/\Below W W w')(hf:Ir X s=(f1&&f2))(sn:s.c1.n<=1048576):
 Calls prog 76 #[.pointer P] w fun e w'=>∃(v:Value) (x:Ae) (c:Int),e= .returned v/\Ew w' B P s g ca q co (lt.set t x) lo t m/\Below B w w'/\Told w' B E v c/\((c=4/\Ir X s=false/\x=X)∨(c=0/\Ir X s=true/\∃d:Au,s.c1.same d/\x=⟨X.id,s.b1,d,X.b2,X.c2,X.own,X.made⟩)):=by
 obtain⟨CW,gl⟩:=h.st.jJ ht;rw[<-hX]at CW;obtain⟨⟨s0,s1,s2,s3,s4,s5,s6,s7,s8,s9⟩,_,_,c12,_⟩:=Ah.jZ (show Ah w.drew P _ from h.wk);obtain⟨⟨k0,k1,k2,k3,k4,k5,k6,k7,k8,k9⟩,_,_,v12,_⟩:=h.wk.jZ;have pl:P<w.heap.size:=h.wk.lt;have n1:¬P=w.heap.size:=by omega
 have n2:¬w.heap.size=P:=by omega
 have HW:=hid h;have HE:=hid he;have HF1:=hid F1;have HF2:=hid F2;have HX:=hid hX;have HS:=hid hs;clear h he F1 F2 hX hs;go_enter func76,ntmps76
 go_upto_region 1 with fail
 go_cut[3,4] from 5 (fun a b wc=>a= .pointer (w)/\b= .pointer (some ⟨g,t*7,none⟩)/\wc=(w.alloc (.cells s 32)).drew)
 case first=>
  go_region_law fail
  all_goals(
   go_wp2_with fail
   go_meet;case rel=>exact⟨rfl,rfl,rfl⟩)
 case rest=>
  obtain⟨rfl,rfl,rfl⟩:=hcut;have n3:No (.cells s 32):=⟨⟩;have b0:Below w w (w.alloc n3).drew:=(Be w _).drew;have A0:Hid (Ah (w.alloc n3).drew w n3):=hid (show Ah (w.alloc n3) w _ from Ah.new w _);have H0:=hid (HW.out.below b0);have B0:=hid b0;have C0:=hid (CW.below gl b0);have gl0:g<((w.alloc n3).drew).heap.size:=Nat.lt_of_lt_of_le gl b0.size;clear s0 s1 s2 s3 s4 s5 s6 s7 s8 s9 c12 k0 k1 k2 k3 k4 k5 k6 k7 k8 k9 v12 CW n1 n2 b0;generalize hV:(w.alloc n3).drew=V at *;clear hV;have V0:=hid (Below.refl V V);have EF:Hid (∀args w,(callFunc 118 args).run prog w= .ok (.enter 118 args) w):=hid (enters_of func118 (by kernel_rfl) rfl);go_upto_region 2 with fail
  go_cut[38] from 5 (fun v wc=>v= .bool (!(f1&&f2))/\Below V V wc)
  case first=>
   obtain⟨x0,x1,x2,x3,x4,x5,x6,x7,x8,x9⟩:=Ah.jE (show Ah V.drew w _ from A0.out);have C1:Fg V.drew g (t*7) X:=C0.out.below gl0 (Below.refl _ V).drew;have y1:V.drew.cell? ⟨g,t*7+1,none⟩=some (.int .i64 X.b1):=C1.c1;have y2:V.drew.cell? ⟨g,t*7+1+1,none⟩=some (.slice X.c1.a X.c1.n X.c1.k):=C1.c2;have y3:V.drew.cell? ⟨g,t*7+3,none⟩=some (.int .i64 X.b2):=C1.c3;have y4:V.drew.cell? ⟨g,t*7+3+1,none⟩=some (.slice X.c2.a X.c2.n X.c2.k):=C1.c4;have y5:V.drew.cell? ⟨g,t*7+5,none⟩=some (.slice X.own.a X.own.n X.own.k):=C1.c5;have D0:=hid (Below.refl V V).drew;have W0:=hid (Af B0 (Below.refl V V).drew);have n5:Na #[X.b1,X.c1]:=⟨⟩;have n6:Na #[s.b1,s.c1]:=⟨⟩;have P1:Hid (Calls prog 118 #[.agg n5,X.own,.agg n6] V.drew fun e w'=>∃v,e= .returned v/\(v= .bool f1/\Below V.drew.heap.size V.drew w')):=hid ((HF1 _ W0).mono fun _ _ h=>⟨_,h.1,rfl,h.2⟩);have BX:Hid (∀W,Below V V W->Ah W w n3/\Fg W g (t*7) X):=hid (fun W hW=>⟨A0.out.below hW,C0.out.below gl0 hW⟩);refine Am 26 (fun W=>Below V V W) (by kernel_rfl) ?_;have n4:Nv (.pointer (some ⟨g,t*7,none⟩)):=⟨⟩;refine tr 0 13 n4 D0 ?_;refine tr 1 14 n4 D0 ?_;refine tr 2 15 (.pointer (some ⟨g,t*7+1,none⟩)) D0 ?_;refine tr 3 16 (.agg n5) D0 ?_ (hy:=fun W h=>by have C:=(BX W h).2;have y1:W.cell? ⟨g,t*7+1,none⟩=some (.int .i64 X.b1):=C.c1;have y2:W.cell? ⟨g,t*7+1+1,none⟩=some (.slice X.c1.a X.c1.n X.c1.k):=C.c2;go_simp);refine tr 4 17 n4 D0 ?_;refine tr 5 18 n4 D0 ?_;have n10:Nv (.pointer (some ⟨g,t*7+5,none⟩)):=⟨⟩;refine tr 6 19 n10 D0 ?_;refine tr 7 20 (.slice X.own.a X.own.n X.own.k) D0 ?_ (hy:=fun W h=>by have C:=(BX W h).2;have y5:W.cell? ⟨g,t*7+5,none⟩=some (.slice X.own.a X.own.n X.own.k):=C.c5;go_simp);have n9:Nv (.pointer (some ⟨w,6,none⟩)):=⟨⟩;refine tr 8 21 n9 D0 ?_;refine tr 9 22 (.agg n6) D0 ?_ (hy:=fun W h=>by obtain⟨x0,x1,x2,x3,x4,x5,x6,x7,x8,x9⟩:=(BX W h).1.jE;go_simp);refine Ac (i:=10) (by kernel_rfl) rfl ?_;intro K hK;refine Df (by rfl) 118 _ _ _ _ (by rfl) EF _ _ _ (by rfl) (by rfl) (by rfl) (some 23) (by rfl) _ P1 ?_;rintro v w1 ⟨rfl,b1⟩;have V1:=hid (Af D0 b1);refine hK _ _ (fun _=>V1) ?_;clear hK K b1;simp only[ap,List.set];refine tr 11 24 (.bool (!f1)) V1 ?_;refine tr 12 25 (.bool (!f1)) V1 ?_;cases f1 with
   |false=>
    refine Pe 12 [(13,26),(14,27),(15,28),(16,29),(17,30),(18,31),(19,32),(20,33),(21,34),(22,35),(23,36),(24,37)] rfl (by kernel_rfl) V1 ?_;simp only[EZ,ap,List.set];refine tr 25 38 (.bool true) V1 ?_;refine Ai (by kernel_rfl) ?_ _;go_wp2_with fail
    go_meet;case rel=>exact⟨rfl,V1⟩
   |true=>
    refine tr 13 26 n9 V1 ?_;have n7:Na #[s.b1,s.c1]:=⟨⟩;refine tr 14 27 (.agg n7) V1 ?_ (hy:=fun W h=>by obtain⟨x0,x1,x2,x3,x4,x5,x6,x7,x8,x9⟩:=(BX W h).1.jE;go_simp);refine tr 15 28 n4 V1 ?_;refine tr 16 29 n4 V1 ?_;refine tr 17 30 n10 V1 ?_;refine tr 18 31 (.slice X.own.a X.own.n X.own.k) V1 ?_ (hy:=fun W h=>by have C:=(BX W h).2;have y5:W.cell? ⟨g,t*7+5,none⟩=some (.slice X.own.a X.own.n X.own.k):=C.c5;go_simp);refine tr 19 32 n4 V1 ?_;refine tr 20 33 n4 V1 ?_;refine tr 21 34 (.pointer (some ⟨g,t*7+3,none⟩)) V1 ?_;have n8:Na #[X.b2,X.c2]:=⟨⟩;refine tr 22 35 (.agg n8) V1 ?_ (hy:=fun W h=>by have C:=(BX W h).2;have y3:W.cell? ⟨g,t*7+3,none⟩=some (.int .i64 X.b2):=C.c3;have y4:W.cell? ⟨g,t*7+3+1,none⟩=some (.slice X.c2.a X.c2.n X.c2.k):=C.c4;go_simp);have P2:Hid (Calls prog 118 #[.agg n7,X.own,.agg n8] w1 fun e w'=>∃v,e= .returned v/\(v= .bool f2/\Below w1 w1 w')):=hid ((HF2 _ (Af B0 V1)).mono fun _ _ h=>⟨_,h.1,rfl,h.2⟩);refine Ac (i:=23) (by kernel_rfl) rfl ?_;intro K hK;refine Df (by rfl) 118 _ _ _ _ (by rfl) EF _ _ _ (by rfl) (by rfl) (by rfl) (some 36) (by rfl) _ P2 ?_;rintro v w2 ⟨rfl,b2⟩;have V2:=hid (Af V1 b2);refine hK _ _ (fun _=>V2) ?_;clear hK K b2;simp only[ap,List.set];refine tr 24 37 (.bool (!f2)) V2 ?_;refine tr 25 38 (.bool (!f2)) V2 ?_;refine Ai (by kernel_rfl) ?_ _;go_wp2_with fail
    go_meet;case rel=>exact⟨rfl,V2⟩
  case rest=>
  obtain⟨rfl,hb⟩:=hcut;rename_i wc;have V1:=hid hb;clear hb;generalize (f1&&f2)=z at *;have HZ:=hid hf;clear hf;have H1:=hid (H0.out.below V1);have B1:=hid (Af B0 V1);cases z with
  |false=>
   have e9:=(HE.out.below h14 (B1.out.mono hB) 9 (by omega) (by omega)).1;go_wp2_with fail
   refine(Bq 257 (.pointer (some (E 9))) wc).mono ?_;rintro e w2 ⟨rfl,rfl⟩;go_wp2;go_ret;have b2:Below wc wc (wc.alloc (.cells #[.int .i64 4,.iface 257 (.pointer (some (E 9)))] 54)):=Be wc _;refine⟨_,X,4,rfl,by rw[HX.out,Fi];exact H1.out.below b2,(Af B1 b2).mono hB,.inr ⟨by decide,_,9,rfl,Ah.new wc _,by decide,by decide,by decide,Nat.le_trans hB B1.out.size⟩,.inl ⟨rfl,HZ,rfl⟩⟩
  |true=>
   obtain⟨x0,x1,x2,x3,x4,x5,x6,x7,x8,x9⟩:=(A0.out.below V1).jE;go_wp2_with fail
   refine(Bg s.b1 s.c1 wc (HS _ (B1.out.mono hB)).1 sn).mono ?_;rintro e w2 ⟨d,rfl,sd,nd,b2⟩;have H2:=hid (H1.out.below b2);obtain⟨S3,hg,cur,hcu⟩:=H1.out.setLab H2 (b:=s.b1) ht HX nd (Nat.le_trans hB B1.out.size);have S3':=hid S3;have B2:=hid ((Af B1 b2).mono hB);have SD:=hid sd;have gf:=hcu.jC;obtain⟨C2,_⟩:=H2.out.st.jJ ht;rw[<-HX.out]at C2;have c1:w2.cell? ⟨g,t*7+1,none⟩=some (.int .i64 X.b1):=C2.c1;have c2:w2.cell? ⟨g,t*7+1+1,none⟩=some (.slice X.c1.a X.c1.n X.c1.k):=C2.c2;clear C2;clear S3 sd nd b2 x0 x1 x2 x3 x4 x5 x6 x7 x8 x9;unfold Au.val;go_wp2;go_ret;refine⟨_,⟨X.id,s.b1,d,X.b2,X.c2,X.own,X.made⟩,0,rfl,S3',?_,.inl ⟨rfl,rfl⟩,.inr ⟨rfl,HZ,d,SD,rfl⟩⟩;exact(B2.out.setCell hg _).setCell hg _
def Tryz.delA_ren:Go.Shelf.Ren:=⟨fun|45=>120|n=>n,fun|22=>55|23=>2|3=>3|4=>4|0=>0|n=>n,fun|n=>n⟩
theorem Tryz.delA:Go.Proofs.SlLaysN.n45 prog Tryz.delA_ren:={
 mixed:=by kernel_rfl
 f45:=⟨Tryz.f120.name,by decide,func120.trans (congrArg some (by kernel_rfl))⟩
 t0:=underlying0
 a0:=isAgg0
 z0:=sizeOf0
 v0:=zeroValue0
 t3:=underlying3
 a3:=isAgg3
 z3:=sizeOf3
 v3:=zeroValue3
 t4:=underlying4
 a4:=isAgg4
 z4:=sizeOf4
 v4:=zeroValue4
 t22:=underlying55
 a22:=isAgg55
 z22:=sizeOf55
 v22:=zeroValue55
 t23:=underlying2
 a23:=isAgg2
 z23:=sizeOf2
 v23:=zeroValue2
 i23:=by kernel_rfl}
def Tryz.compA_ren:Go.Shelf.Ren:=⟨fun|43=>132|n=>n,fun|22=>55|23=>2|3=>3|4=>4|0=>0|n=>n,fun|n=>n⟩
theorem Tryz.compA:Go.Proofs.SlLaysN.n43 prog Tryz.compA_ren:={
 mixed:=by kernel_rfl
 f43:=⟨Tryz.f132.name,by decide,func132.trans (congrArg some (by kernel_rfl))⟩
 t0:=underlying0
 a0:=isAgg0
 z0:=sizeOf0
 v0:=zeroValue0
 t3:=underlying3
 a3:=isAgg3
 z3:=sizeOf3
 v3:=zeroValue3
 t4:=underlying4
 a4:=isAgg4
 z4:=sizeOf4
 v4:=zeroValue4
 t22:=underlying55
 a22:=isAgg55
 z22:=sizeOf55
 v22:=zeroValue55
 t23:=underlying2
 a23:=isAgg2
 z23:=sizeOf2
 v23:=zeroValue2
 i23:=by kernel_rfl}
theorem Xq(a:Option Addr)(n cap:Nat)(h:Nat->Int)(x:Int)(w:World)(hn:n<=maxLen)(hc:Bj w a n h):
 Calls prog 119 #[.slice a n cap,.int .i64 x] w fun e w'=>w'=w/\((e= .returned (.int .i64 (-1))/\hasB n h x=false)∨∃i:Nat,i<n/\h i=x/\(∀j,j<i->h j≠x)/\hasB n h x=true/\e= .returned (.int .i64 i)):=by
 unfold maxLen at hn;go_enter func119,ntmps119
 go_wp2;go_loop [8] (fun i=>∃k:Nat,k<=n/\i= .int .i64 k/\(∀j,j<k->h j≠x)) (fun i=>n-(intOf i).toNat)
 case atStart=>exact⟨0,Nat.zero_le _,rfl,fun j hj=>by omega⟩
 case round=>
  obtain⟨k,hk,rfl,hall⟩:=hrel;have HA:Hid (∀j,j<k->h j≠x):=hall;clear hall;by_cases hlt':k<n
  ·obtain⟨b,off,rfl,hlt,hcc⟩:=hc (by omega);have g1:=hcc k hlt';clear hcc hc;by_cases t:(x==h k)=true
   ·go_wp2;go_ret;exact⟨rfl,.inr ⟨k,hlt',(by simpa using(beq_iff_eq.1 t).symm),HA,Ol hlt' (by simpa using(beq_iff_eq.1 t).symm),rfl⟩⟩
   ·have t':(x==h k)=false:=(by simpa using t);clear t;go_wp2;go_round;case rel=>
     refine⟨k+1,by omega,by go_num,fun j hj=>?_⟩;by_cases e:j=k
     ·subst e;intro q;rw[q]at t';simp at t'
     ·exact HA.out j (by omega)
    case measure=>simp[intOf];omega
  ·clear hc;go_wp2;go_ret;have e:k=n:=(by omega);subst e;exact⟨rfl,.inl ⟨rfl,Qv HA⟩⟩
theorem XB{h:Nat->Int}{c:Int}:∀{n i:Nat},i<n->h i=c->(∀j,j<n->j≠i->h j≠c)->Da h c n=((List.range n).map h).take i++((List.range n).map h).drop (i+1):=by
 intro n i hi he ho;unfold Da;have e1:(List.range n).map h=((List.range n).map h).take i++(h i::((List.range n).map h).drop (i+1)):=by
  have hl:i<((List.range n).map h).length:=by simpa using hi
  have:=List.take_append_drop i ((List.range n).map h);rw[List.drop_eq_getElem_cons hl]at this;simpa using this.symm
 have p1:∀y∈((List.range n).map h).take i,y≠c:=fun y hy=>by
  obtain⟨j,hj,rfl⟩:=List.getElem_of_mem hy;simp only[List.length_take,List.length_map,List.length_range]at hj;simp only[List.getElem_take,List.getElem_map,List.getElem_range];exact ho j (by omega) (by omega)
 have p2:∀y∈((List.range n).map h).drop (i+1),y≠c:=fun y hy=>by
  obtain⟨j,hj,rfl⟩:=List.getElem_of_mem hy;simp only[List.length_drop,List.length_map,List.length_range]at hj;simp only[List.getElem_drop,List.getElem_map,List.getElem_range];exact ho _ (by omega) (by omega)
 conv=>lhs;rw[e1]
 rw[List.filter_append,List.filter_cons];have q1:(((List.range n).map h).take i).filter (fun y=> !decide (y=c))=((List.range n).map h).take i:=List.filter_eq_self.2 (fun y hy=>by simp[p1 y hy]);have q2:(((List.range n).map h).drop (i+1)).filter (fun y=> !decide (y=c))=((List.range n).map h).drop (i+1):=List.filter_eq_self.2 (fun y hy=>by simp[p2 y hy]);rw[q1,q2];simp[he]
open Go.Sort
variable {w:World}{g n:Nat}
theorem Sn{n:Nat}{cur:Array Value}{e:TypeId}{fr:Nat×Nat}(d:Array Int)(hb:w.heap[g]? =some (.cells cur e fr)):
 (putRow (Value.int .i64) (Sort.ahead w n) g 0 d).heap[g]? =some (.cells (putCells (Value.int .i64) 0 d cur) e fr):=by
 simp[putRow,mapBlock,Sort.ahead,Array.getElem?_modify,hb,onCells]
theorem Qp(d:Array Int):w.grownBy (putRow (Value.int .i64) (Sort.ahead w n) g 0 d) (some g):=by
 refine⟨rfl,rfl,rfl,by simp[Sort.ahead],fun k hk hne=>?_⟩;have:g≠k:=fun e=>hne (by rw[e]);simp[putRow,mapBlock,Sort.ahead,Array.getElem?_modify,this]
theorem US(c:AI)(B:Nat)(w:World)(hc:c.new B w)(hk:c.n<=c.k/\c.k<=maxLen)(i:Nat)(hi:i<c.n):
 Calls prog 120 #[c,.int .i64 i,.int .i64 (i+1)] w fun e w'=>∃b,c.a=some ⟨b,0,none⟩/\e= .returned (.slice c.a (c.n-1) c.k)/\w.grownBy w' (some b)/\(⟨c.a,c.n-1,c.k,AX (((List.range c.n).map c.h).take i++((List.range c.n).map c.h).drop (i+1))⟩:AI).new B w':=by
 obtain⟨b,m,F,ea,h1,h2,cur,hcur,hsz,hF⟩:=hc.2 (by omega);obtain⟨b',off,ea',hlt,hcc⟩:=hc.1.2 (by omega);rw[ea]at ea';cases ea';have hl:((List.range c.n).map c.h).length=c.n:=by simp
 have hH:Holds (Value.int .i64) w b 0 ((List.range c.n).map c.h).toArray:=fun j hj=>by
  simp only[List.size_toArray,hl]at hj;refine⟨?_,?_⟩
  ·have:=hcc j hj;simpa[hj]using this
  ·simp[World.frozen?,hcur]
 have km:c.k<=9223372036854775807:=by have:=hk.2;unfold maxLen at this;exact this
 have h:Calls prog 120 _ w _:=AnyG.slices_Delete_int Tryz.delA b 0 c.k i (i+1) ((List.range c.n).map c.h) w hH (by rw[hl];exact hk.1) km (by omega) (by rw[hl];omega);rw[hl,show c.n-(i+1-i)=c.n-1 from by omega,show i+1-i=1 from by omega]at h;have ei:((i+1:Nat):Int)=(i:Int)+1:=by omega
 rw[ei]at h;rw[ea];refine h.mono ?_;rintro e w' ⟨rfl,q,rfl⟩;generalize hL:((List.range c.n).map c.h).take i++((List.range c.n).map c.h).drop (i+1)=L;have ll:L.length=c.n-1:=by rw[<-hL];simp;omega
 have hp:=Sn (n:=q) (L++List.replicate 1 0).toArray hcur;have cell:∀j,j<c.n-1->(putRow (Value.int .i64) (Sort.ahead w q) b 0 (L++List.replicate 1 0).toArray).cell? ⟨b,0+j,none⟩=some (.int .i64 (AX L j)):=fun j hj=>by
  have hj':j<L.length:=by omega
  have hjc:j<cur.size:=by omega
  simp only[World.cell?,hp];simp[putCells,hjc,show j<L.length+1 by omega,AX,hj']
 refine⟨b,rfl,rfl,Qp _,⟨Nat.le_trans (Nat.sub_le _ _) hc.1.1,fun _=>⟨b,0,rfl,?_,cell⟩⟩,fun _=>⟨b,m,fun k=>((putCells (Value.int .i64) 0 (L++List.replicate 1 0).toArray cur)[k]?).getD undef,rfl,h1,by show c.n-1<=m;omega,⟨_,hp,by simp[putCells,hsz],fun k hk'=>?_⟩⟩⟩
 ·simpa[Sort.ahead]using hlt
 ·have:k<(putCells (Value.int .i64) 0 (L++List.replicate 1 0).toArray cur).size:=by simp[putCells];omega
  show _=some ((putCells (Value.int .i64) 0 (L++List.replicate 1 0).toArray cur)[k]?.getD undef);rw[Array.getElem?_eq_getElem this];rfl
theorem MW:∀{L:List (List Nat)},L.flatten.Nodup->∀{i j:Nat}{a b:List Nat}{x:Nat},L[i]? =some a->L[j]? =some b->i≠j->x∈a->x∈b->False
 |[],_,i,_,_,_,_,h,_,_,_,_=>by simp at h
 |l::r,hn,i,j,a,b,x,hi,hj,ne,ha,hb=>by
  rw[List.flatten_cons,List.nodup_append]at hn;obtain⟨_,h2,h3⟩:=hn;have up:∀{k:Nat}{c:List Nat},r[k]? =some c->∀y∈c,y∈r.flatten:=fun{k c} hk y hy=>List.mem_flatten.2 ⟨c,List.mem_of_getElem? hk,hy⟩;match i,j with
  |0,0=>exact ne rfl
  |0,j+1=>
   simp at hi;subst hi;simp at hj;exact h3 x ha x (up hj x hb) rfl
  |i+1,0=>
   simp at hj;subst hj;simp at hi;exact h3 x hb x (up hi x ha) rfl
  |i+1,j+1=>
   simp at hi hj;exact MW h2 hi hj (by omega) ha hb
section
variable {w w':World}{B b m:Nat}{F:Nat->Value}
theorem Au.new.beside{c:Au}(h:c.new B w)(hr:w.rowIs b 2 m F)(hg:w.grownBy w' (some b)):c.new B w':=h.of hg.size (fun b' e hn=>by
 obtain⟨b'',m',F',e',_,_,hr'⟩:=h.2 hn;rw[e]at e';cases e';exact hg.block b' hr'.lt (fun ee=>Ff hr' hr (by decide) (by have:=Option.some.inj ee;omega)))
theorem AF.new.beside{c:AF}(h:c.new B w)(hr:w.rowIs b 2 m F)(hg:w.grownBy w' (some b)):c.new B w':=h.of hg.size (fun b' e hn=>by
 obtain⟨b'',m',F',e',_,_,hr'⟩:=h.2 hn;rw[e]at e';cases e';exact hg.block b' hr'.lt (fun ee=>Ff hr' hr (by decide) (by have:=Option.some.inj ee;omega)))
theorem AI.new.beside{c:AI}(h:c.new B w)(hn:b∉c.bs)(hg:w.grownBy w' (some b)):c.new B w':=h.of hg.size (fun b' e h0=>by
 obtain⟨b'',m',F',e',_,_,hr'⟩:=h.2 h0;rw[e]at e';cases e';refine hg.block b' hr'.lt (fun ee=>hn ?_);have:b=b':=by have:=Option.some.inj ee;omega
 subst this;unfold AI.bs;rw[if_pos h0,e];simp)
end
theorem By.ownRow{w w':World}{B g ca b:Nat}{vo:Value}{lt:List Ae}{lo:List Ab}(h:By w B (.slice g lt.length ca) vo lt lo)(ha:Apart lt lo){t:Nat}(ht:t<lt.length){X:Ae}(hX:X=lt[t])(hb:X.own.a=some ⟨b,0,none⟩)(hn:0<X.own.n)(hg:w.grownBy w' (some b)){d:AI}(hd:d.new B w')(hdc:d.n<=d.k/\d.k<=maxLen):
 By (w'.setCell ⟨g,t*7+5,none⟩ (.slice d.a d.n d.k)) B (.slice g lt.length ca) vo (lt.set t ⟨X.id,X.b1,X.c1,X.b2,X.c2,d,X.made⟩) lo/\(∃cur,Ah w' g (.cells cur 57))/\B<=g:=by
 have hx:=h.tn _ (List.getElem_mem ht);rw[<-hX]at hx;obtain⟨b',m,F,eb,hBb,_,hr⟩:=hx.2.2.2 hn;rw[hb]at eb;cases eb;have hbs:b∈X.own.bs:=by unfold AI.bs;rw[if_pos hn,hb];simp
 have other:∀{v:Value}{ty:TypeId}{sz n:Nat}{cs:List Value},w.ownsRow B ty sz v n cs->ty≠2->v.ownBlock=none∨v.ownBlock≠some b:=fun{v ty sz n cs} ho hty=>by
  rcases ho.2 with⟨hv,_⟩|⟨g',cap,cur,hv,_,hgg,_⟩
  ·exact .inl (by rw[hv];rfl)
  ·refine .inr (fun e=>hty ?_);rw[hv]at e;have e2:g'=b:=(by simpa[Value.ownBlock]using e);obtain⟨c,hc,_⟩:=hr;rw[<-e2,hgg]at hc;simp at hc;exact hc.2
 have own:(((lt.map fun x=>x.own.bs)++(lo.map fun x=>x.own.bs)).flatten).Nodup:=by have:=ha.i;simpa using this
 have it:((lt.map fun x=>x.own.bs)++(lo.map fun x=>x.own.bs))[t]? =some X.own.bs:=by
  rw[List.getElem?_append_left (by simpa using ht)];simp[ht,hX]
 have kt:Dn w' B (.slice g lt.length ca) lt:=World.ownsRow.kept h.t hg (other h.t (by decide));have ko:AO w' B vo lo:=World.ownsRow.kept h.o hg (other h.o (by decide));have ton:∀j (hj:j<lt.length),j≠t->(lt[j]).new B w':=fun j hj ne=>by
  have hy:=h.tn _ (List.getElem_mem hj);refine⟨hy.1.beside hr hg,hy.2.1.beside hr hg,hy.2.2.beside (fun hb2=>?_) hg⟩;exact MW own (i:=j) (j:=t) (by rw[List.getElem?_append_left (by simpa using hj)];simp[hj]) it ne hb2 hbs
 have oon:∀y∈lo,y.new B w':=fun y hy=>by
  have hy':=h.on y hy;refine⟨hy'.1.beside hr hg,hy'.2.1.beside hr hg,hy'.2.2.1.beside (fun hb2=>?_) hg,hy'.2.2.2.beside hr hg⟩;obtain⟨j,hj,rfl⟩:=List.getElem_of_mem hy;exact MW own (i:=lt.length+j) (j:=t) (by rw[List.getElem?_append_right (by simp),List.length_map,Nat.add_sub_cancel_left];simp[hj]) it (by omega) hb2 hbs
 obtain⟨cur,hcur⟩:∃cur,Ah w' g (.cells cur 57):=by
  rcases kt.2 with⟨hv,_⟩|⟨g',cap,cur,hv,_,hgg,_⟩
  ·cases hv
  ·cases hv;exact⟨cur,hgg⟩
 have hBg:B<=g:=(World.ownsRow.lt kt g rfl).1;have kl:=As (i:=t*7+5) hcur (by decide) (.slice d.a d.n d.k);have ho:=(World.ownsRow.stored kt (t*7+5) (.slice d.a d.n d.k)).1;have hxn:(⟨X.id,X.b1,X.c1,X.b2,X.c2,d,X.made⟩:Ae).new B w':=⟨hx.1.beside hr hg,hx.2.1.beside hr hg,hd⟩;refine⟨⟨?_,ko.set hcur (by decide) _,fun y hy=>?_,fun y hy=>(oon y hy).keeps kl,fun y hy=>?_,h.oc⟩,⟨cur,hcur⟩,hBg⟩
 ·unfold Dn;have e:=Db (f:=Ae.cs) Ae.jK (l:=lt) (t:=t) (x:=(⟨X.id,X.b1,X.c1,X.b2,X.c2,d,X.made⟩:Ae)) (u:= .slice d.a d.n d.k) (i:=5) ht (by omega) (by rw[<-hX];rfl);have el:(lt.set t (⟨X.id,X.b1,X.c1,X.b2,X.c2,d,X.made⟩:Ae)).length=lt.length:=by simp
  rw[el];unfold Cf;rw[<-e];exact ho
 ·obtain⟨j,hj,rfl⟩:=List.getElem_of_mem hy;rw[List.getElem_set];split
  ·exact hxn.keeps kl
  ·exact(ton j (by simpa using hj) (by omega)).keeps kl
 ·rcases Eu hy with rfl|hy
  ·exact hdc
  ·exact h.tc y hy
theorem Ew.ownRow{w w':World}{B P b:Nat}{s:Al}{g ca q co:Nat}{lt:List Ae}{lo:List Ab}{t:Nat}{m:Value}(h:Ew w B P s g ca q co lt lo t m)(ht:t<lt.length){X:Ae}(hX:X=lt[t])(hb:X.own.a=some ⟨b,0,none⟩)(hn:0<X.own.n)(hg:w.grownBy w' (some b)){d:AI}(hd:d.new B w')(hdc:d.n<=d.k/\d.k<=maxLen)(hda:d.a=X.own.a):
 Ew (w'.setCell ⟨g,t*7+5,none⟩ (.slice d.a d.n d.k)) B P s g ca q co (lt.set t ⟨X.id,X.b1,X.c1,X.b2,X.c2,d,X.made⟩) lo t m/\(∃cur,Ah w' g (.cells cur 57))/\B<=g/\B<=b/\Ah w' P (.cells (If s g lt.length ca q lo.length co t m) 91)/\g≠b:=by
 obtain⟨k1,⟨cur,hcu⟩,hBg⟩:=h.st.ownRow h.ap ht hX hb hn hg hd hdc;have el:(lt.set t (⟨X.id,X.b1,X.c1,X.b2,X.c2,d,X.made⟩:Ae)).length=lt.length:=by simp
 have hx:=h.st.tn _ (List.getElem_mem ht);rw[<-hX]at hx;obtain⟨b',m',F,eb,hBb,_,hr⟩:=hx.2.2.2 hn;rw[hb]at eb;cases eb;have hcb:X.cb.Nodup:=Dh (L:=lt.map Ae.cb) (t:=t) (by simp[ht,hX]) h.ap.c;have pb:P≠b:=fun e=>by
  obtain⟨c,hc,_⟩:=hr;have hw:=h.wk;unfold Ah at hw;rw[e,hc]at hw;simp at hw
 have wk:Ah w' P (.cells (If s g lt.length ca q lo.length co t m) 91):=h.wk.grown hg (fun e=>pb (by have:=Option.some.inj e;omega));have gb:g≠b:=fun e=>by
  obtain⟨c,hc,_⟩:=hr;rcases h.st.t.2 with⟨hv,_⟩|⟨g',cap,cur',hv,_,hgg,_⟩
  ·cases hv
  ·cases hv;rw[e,hc]at hgg;simp at hgg
 refine⟨⟨by rw[el];exact k1,h.ap.setT h.st ht (x:=⟨X.id,X.b1,X.c1,X.b2,X.c2,d,X.made⟩) hcb (fun y hy=> .inl (by rw[<-hX];exact hy)) hd.bs.1 (fun y hy=> .inl ?_),by rw[el];exact wk.other (Ne.symm h.setP.1) _,h.lp⟩,⟨cur,hcu⟩,hBg,hBb,wk,gb⟩;rw[<-hX];have hy':y∈d.bs:=hy;unfold AI.bs at hy' ⊢;rw[hda,hb]at hy';rw[if_pos hn,hb];split at hy'
 ·exact hy'
 ·cases hy'
theorem Ww(E:Nat->Addr)(w:World)(B P:Nat)(s:Al)(g ca q co:Nat)(lt:List Ae)(lo:List Ab)(t:Nat)(m:Value)(h:Ew w B P s g ca q co lt lo t m)(he:Ks w E)(h14:14<=B)(hB:B<=w.heap.size)(ht:t<lt.length)(X:Ae)(hX:X=lt[t])(hr:∀i j,i<j->j<X.own.n->X.own.h i≠X.own.h j):
 Calls prog 77 #[.pointer P] w fun e w'=>∃(v:Value) (x:Ae) (c:Int),e= .returned v/\Ew w' B P s g ca q co (lt.set t x) lo t m/\Below B w w'/\Told w' B E v c/\((c=4/\hasB X.own.n X.own.h s.cat=false/\x=X)∨(c=0/\hasB X.own.n X.own.h s.cat=true/\∃(a:Option Addr) (cc:Nat),x=⟨X.id,X.b1,X.c1,X.b2,X.c2,⟨a,(Da X.own.h s.cat X.own.n).length,cc,AX (Da X.own.h s.cat X.own.n)⟩,X.made⟩)):=by
 obtain⟨CW,gl⟩:=h.st.jJ ht;rw[<-hX]at CW;have hx:=h.st.tn _ (List.getElem_mem ht);have hxc:=h.st.tc _ (List.getElem_mem ht);rw[<-hX]at hx hxc;have HN:=hid hx;have HC:=hid hxc;have HW:=hid h;have HE:=hid he;have HX:=hid hX;have HR:=hid hr;have n2:No (.cells (If s g lt.length ca q lo.length co t m) 91):=⟨⟩;have BX:Hid (∀W,Below w w W->Ah W P n2/\Fg W g (t*7) X):=hid (fun W hW=>⟨HW.out.wk.below hW,CW.below gl hW⟩);have EI:Hid (∀args w,(callFunc 119 args).run prog w= .ok (.enter 119 args) w):=hid (enters_of func119 (by kernel_rfl) rfl);have ED:Hid (∀args w,(callFunc 120 args).run prog w= .ok (.enter 120 args) w):=hid (enters_of func120 (by kernel_rfl) rfl);clear h he hX hr CW hx hxc;have D0:=hid (Below.refl w w).drew;have P1:Hid (Calls prog 119 #[X.own,s.cat] w.drew fun e w'=>∃v,e= .returned v/\(w'=w.drew/\((v= .int .i64 (-1)/\hasB X.own.n X.own.h s.cat=false)∨∃i:Nat,i<X.own.n/\X.own.h i=s.cat/\(∀j,j<i->X.own.h j≠s.cat)/\hasB X.own.n X.own.h s.cat=true/\v= .int .i64 i))):=hid ((Xq X.own.a X.own.n X.own.k X.own.h s.cat w.drew HN.out.2.2.1.1 (HN.out.2.2.1.2.below (Below.refl _ w).drew)).mono fun e w' hh=>by
  obtain⟨rfl,⟨rfl,h2⟩|⟨i,h1,h2,h3,h4,rfl⟩⟩:=hh
  ·exact⟨_,rfl,rfl,.inl ⟨rfl,h2⟩⟩
  ·exact⟨_,rfl,rfl,.inr ⟨i,h1,h2,h3,h4,rfl⟩⟩)
 go_enter func77,ntmps77
 go_upto_region 1 with fail
 refine Am 14 (fun W=>Below w w W) (by kernel_rfl) ?_;have n1:Nv (.pointer P):=⟨⟩;refine tr 0 4 n1 D0 ?_;refine tr 1 5 n1 D0 ?_;have n4:Nv (.pointer (some ⟨P,12,none⟩)):=⟨⟩;refine tr 2 6 n4 D0 ?_;have n3:Nv (.pointer (some ⟨g,t*7,none⟩)):=⟨⟩;refine tr 3 7 n3 D0 ?_ (hy:=fun W h=>by obtain⟨⟨k0,k1,k2,k3,k4,k5,k6,k7,k8,k9⟩,_,_,k12,_⟩:=(BX W h).1.jZ;go_simp);refine tr 4 8 n3 D0 ?_;have n5:Nv (.pointer (some ⟨g,t*7+5,none⟩)):=⟨⟩;refine tr 5 9 n5 D0 ?_;refine tr 6 10 (.slice X.own.a X.own.n X.own.k) D0 ?_ (hy:=fun W h=>by have C:=(BX W h).2;have y5:W.cell? ⟨g,t*7+5,none⟩=some (.slice X.own.a X.own.n X.own.k):=C.c5;go_simp);refine tr 7 11 n1 D0 ?_;refine tr 8 12 n1 D0 ?_;refine tr 9 13 n1 D0 ?_;refine tr 10 14 (.pointer (some ⟨P,4,none⟩)) D0 ?_;refine tr 11 15 (.int .i64 s.cat) D0 ?_ (hy:=fun W h=>by obtain⟨⟨k0,k1,k2,k3,k4,k5,k6,k7,k8,k9⟩,_,_,k12,_⟩:=(BX W h).1.jZ;go_simp);refine Ac (i:=12) (by kernel_rfl) rfl ?_;intro K hK;refine AJ (by rfl) 119 _ _ _ (by rfl) EI _ _ (by rfl) (by rfl) (some 16) (by rfl) _ P1 ?_;rintro v w1 ⟨rfl,hv⟩;refine hK _ _ (fun _=>D0) ?_;clear hK K;simp only[ap,List.set];rcases hv with⟨rfl,hno⟩|⟨i,hi1,hi2,hi3,hyes,rfl⟩
 ·have HNO:=hid hno;clear hno;refine tr 13 3 (.int .i64 (-1)) D0 ?_;refine Ai (by kernel_rfl) ?_ _;have e10:=(HE.out.below h14 (D0.out.mono hB) 10 (by omega) (by omega)).1;go_wp2_with fail
  refine(Bq 257 (.pointer (some (E 10))) w.drew).mono ?_;rintro e w2 ⟨rfl,rfl⟩;go_wp2;go_ret;have b2:Below w.drew.heap.size w.drew (w.drew.alloc (.cells #[.int .i64 4,.iface 257 (.pointer (some (E 10)))] 54)):=(Below.refl _ w.drew).alloc nr _;refine⟨_,X,4,rfl,by rw[HX.out,Fi];exact(HW.out.below D0).below b2,(Af D0 b2).mono hB,.inr ⟨by decide,_,10,rfl,Ah.new w.drew _,by decide,by decide,by decide,hB⟩,.inl ⟨rfl,HNO,rfl⟩⟩
 ·have HYE:=hid hyes;have HI2:=hid hi2;have HI3:=hid hi3;clear hyes hi2 hi3;refine tr 13 3 (.int .i64 i) D0 ?_;refine Ai (by kernel_rfl) ?_ _;have i0:¬(i:Int)<0:=by omega
  have il:X.own.n<=maxLen:=HN.out.2.2.1.1;have w1_:IntKind.i64.wrap ((i:Int)+1)=(i:Int)+1:=by rw[IntKind.wrap_i64];unfold maxLen at il;omega
  go_upto_region 4 with fail
  have D1:=hid D0.out.drew;have H2:=hid (HW.out.below D1);have P2:Hid (Calls prog 120 #[X.own,.int .i64 i,.int .i64 (i+1)] w.drew.drew fun e w'=>∃v,e= .returned v/\∃b,v= .slice X.own.a (X.own.n-1) X.own.k/\X.own.a=some ⟨b,0,none⟩/\w.drew.drew.grownBy w' (some b)/\(⟨X.own.a,X.own.n-1,X.own.k,AX (((List.range X.own.n).map X.own.h).take i++((List.range X.own.n).map X.own.h).drop (i+1))⟩:AI).new B w'):=hid ((US X.own B w.drew.drew (HN.out.2.2.below D1) HC i hi1).mono fun e w' hh=>by
   obtain⟨b,h1,rfl,h3,h4⟩:=hh;exact⟨_,rfl,b,rfl,h1,h3,h4⟩)
  have Z1:Hid ((fun W=>Ah W P n2/\W.cell? ⟨g,t*7+5,none⟩=some (.slice X.own.a X.own.n X.own.k)) w.drew.drew):=hid ⟨(BX _ D1).1,(BX _ D1).2.c5⟩;refine Am 17 (fun W=>Ah W P n2/\W.cell? ⟨g,t*7+5,none⟩=some (.slice X.own.a X.own.n X.own.k)) (by kernel_rfl) ?_;refine tr 0 21 n1 Z1 ?_;refine tr 1 22 n1 Z1 ?_;refine tr 2 23 n4 Z1 ?_;refine tr 3 24 n3 Z1 ?_ (hy:=fun W h=>by obtain⟨⟨k0,k1,k2,k3,k4,k5,k6,k7,k8,k9⟩,_,_,k12,_⟩:=h.1.jZ;go_simp);refine tr 4 25 n1 Z1 ?_;refine tr 5 26 n1 Z1 ?_;refine tr 6 27 n4 Z1 ?_;refine tr 7 28 n3 Z1 ?_ (hy:=fun W h=>by obtain⟨⟨k0,k1,k2,k3,k4,k5,k6,k7,k8,k9⟩,_,_,k12,_⟩:=h.1.jZ;go_simp);refine tr 8 29 n3 Z1 ?_;refine tr 9 30 n5 Z1 ?_;refine tr 10 31 (.slice X.own.a X.own.n X.own.k) Z1 ?_ (hy:=fun W h=>by have y5:=h.2;go_simp);refine tr 11 32 (.int .i64 i) Z1 ?_;refine tr 12 33 (.int .i64 i) Z1 ?_;refine tr 13 34 (.int .i64 (i+1)) Z1 ?_;refine Ac (i:=14) (by kernel_rfl) rfl ?_;intro K hK;refine Df (by rfl) 120 _ _ _ _ (by rfl) ED _ _ _ (by rfl) (by rfl) (by rfl) (some 35) (by rfl) _ P2 ?_;rintro v w3 ⟨b,rfl,hb,hg3,hd⟩;obtain⟨S3,⟨cur,hcu⟩,hBg,hBb,wk3,gb⟩:=H2.out.ownRow ht HX hb (by omega) hg3 hd (show X.own.n-1<=X.own.k/\X.own.k<=maxLen from⟨by have:=HC.out.1;omega,HC.out.2⟩) rfl;have c5:w3.cell? ⟨g,t*7+5,none⟩=some (.slice X.own.a X.own.n X.own.k):=(World.cell?_of_block (a:=⟨g,t*7+5,none⟩) (hg3.block g gl (fun e=>gb (by have:=Option.some.inj e;omega)))).trans (BX _ D1).2.c5;have Z3:Hid ((fun W=>Ah W P n2/\W.cell? ⟨g,t*7+5,none⟩=some (.slice X.own.a X.own.n X.own.k)) w3):=hid ⟨wk3,c5⟩;refine hK _ _ (fun _=>Z3) ?_;clear hK K;simp only[ap,List.set];have S3':=hid S3;have gf:=hcu.jC;have B3:Hid (Below B w w3):=hid ((D1.out.mono hB).trans (below_grown hg3 hB (fun j e=>by have:=Option.some.inj e;omega)));have LC:Hid (Da X.own.h s.cat X.own.n=(((List.range X.own.n).map X.own.h).take i++((List.range X.own.n).map X.own.h).drop (i+1))):=hid (XB hi1 HI2 (fun j hj ne=>by
   intro e;rcases Nat.lt_or_gt_of_ne ne with h|h
   ·exact HI3.out j h e
   ·exact HR.out i j h hj (HI2.out.trans e.symm)))
  have LL:Hid ((Da X.own.h s.cat X.own.n).length=X.own.n-1):=hid (by rw[LC.out];simp;omega);clear S3 hd hg3 hb;refine Ac (i:=15) (by kernel_rfl) rfl ?_;intro K hK;go_simp;refine hK _ _ (fun _=>Z3) ?_;clear hK K;try simp only[ap,List.set]
  refine Ac (i:=16) (by kernel_rfl) rfl ?_;intro K hK;go_simp;refine hK _ _ (fun _=>Z3) ?_;clear hK K;try simp only[ap,List.set]
  refine Ac (i:=17) (by kernel_rfl) rfl ?_;intro K hK;go_simp;refine hK _ _ (fun h=>absurd h (by decide)) ?_;clear hK K;try simp only[Act.put]
  refine Ai (by kernel_rfl) ?_ _;go_wp2;go_ret;exact⟨_,rfl,_,S3',B3.out.setCell hBg _,0,.inl ⟨rfl,rfl⟩,.inr ⟨rfl,HYE,X.own.a,X.own.k,by rw[LL.out,LC.out]⟩⟩
theorem Pn(c:AI)(w:World)(hc:c.at w)(hn:c.n<=1048576):
 Calls prog 82 #[c] w fun e w'=>∃(a:Option Addr) (k:Nat),e= .returned (.slice a c.n k)/\Az w' w (.slice a c.n k) ((List.range c.n).map c.h)/\Below w w w':=by
 obtain⟨a,n,cap,f⟩:=c;obtain⟨hm,hc⟩:=hc;simp only at hm hc hn ⊢;have L0:=hc.intL;have el:((List.range n).map f).length=n:=by simp
 have L:Hid (Bp w a n (((List.range n).map f).map (Value.int .i64))):=hid (by unfold Dw at L0;rw[el]at L0;exact L0);clear hc L0;go_enter func82,ntmps82
 go_wp2_with(refine BU underlying55 Tryz.info2 rfl (by omega) _ rfl _ _ rfl w (.slice none 0 0) 0 [] rfl (World.ownsRow_nil _ _ _ _) a n cap (((List.range n).map f).map (Value.int .i64)) rfl (by simp) L (fun u hu=>by obtain⟨y,_,rfl⟩:=List.mem_map.1 hu;rfl) (by omega) (by omega) nr ?_;intro a3 c3 w3 o3 g3;rw[Nat.zero_add,List.nil_append]at o3;rw[Nat.zero_add])
 go_ret;exact⟨a3,c3,rfl,by unfold Az;rw[el];exact o3,below_grown g3 nr (fun j hj=>by cases hj)⟩
theorem Sv(l:List Int):(Lib.compact l).length<=l.length:=by
 unfold Lib.compact Lib.compactUpTo;rw[List.length_map];exact Nat.le_trans (List.length_filter_le _ _) (by simp)
theorem S9(B c:Nat)(a:Option Addr)(l:List Int)(w:World)(h:Az w B (.slice a l.length c) l)(hl:l.length<=100000):
 Calls prog 132 #[.slice a l.length c] w fun e w'=>e= .returned (.slice a (Lib.compact l).length c)/\Az w' B (.slice a (Lib.compact l).length c) (Lib.compact l)/\w.grownBy w' (Value.slice a l.length c).ownBlock:=by
 rcases h.2 with⟨hv,hn⟩|⟨g,cap,cur,hv,hB,hb,h1,h2,h3,h4⟩
 ·have e0:l=[]:=List.eq_nil_of_length_eq_zero hn;subst e0;have hh:Calls prog 132 #[.slice a 0 c] w _:=AnyG.slices_Compact_int_empty Tryz.compA a c w;refine hh.mono ?_;rintro e w' ⟨rfl,rfl⟩;have e0:Lib.compact ([]:List Int)=[]:=rfl;rw[e0];exact⟨rfl,h,⟨rfl,rfl,rfl,Nat.le_refl _,fun _ _ _=>rfl⟩⟩
 ·simp only[Value.slice.injEq]at hv;obtain⟨rfl,_,rfl⟩:=hv;have hh:Calls prog 132 #[.slice g l.length c] w _:=AnyG.slices_Compact_int Tryz.compA g 0 c l w (holds_of_blockI hb (by simpa using h4)) (by omega) h1;refine hh.mono ?_;rintro e w' ⟨rfl,q,rfl⟩;have cl:=Sv l;have ll:(Lib.compact l++List.replicate (l.length-(Lib.compact l).length) 0).length=l.length:=by simp;omega
  refine⟨rfl,⟨by simp,.inr ⟨g,c,_,rfl,hB,Sn _ hb,by omega,h2,by simp[putCells,h3],?_⟩⟩,Qp _⟩;have t:=take_putCellsI cur (Lib.compact l++List.replicate (l.length-(Lib.compact l).length) 0) (by rw[ll];omega);rw[ll]at t;have t2:=congrArg (List.take (Lib.compact l).length) t;rw[List.take_take,Nat.min_eq_left cl,List.map_append,List.take_append_of_le_length (by simp)]at t2;rw[Nat.mul_one];exact t2.trans (List.take_of_length_le (by simp))
theorem Kz(c d:AI)(w:World)(hc:c.at w)(hd:d.at w)(hn:c.n<=1000)(hm:d.n<=1000):
 Calls prog 106 #[c,d] w fun e w'=>∃(a:Option Addr) (k:Nat) (L:List Int),L=Lib.compact (Cy ((List.range c.n).map c.h++(List.range d.n).map d.h))/\e= .returned (.slice a L.length k)/\Az w' w (.slice a L.length k) L/\Below w w w':=by
 have HD:=hid hd;have CC:=hid (Pn c w hc (by omega));clear hc hd;go_enter func106,ntmps106
 go_wp2_with fail
 refine CC.out.mono ?_;rintro e w1 ⟨a1,k1,rfl,o1,b1⟩;have el:((List.range d.n).map d.h).length=d.n:=by simp
 have el1:((List.range c.n).map c.h).length=c.n:=by simp
 have L0:=(HD.out.below b1).2.intL;have L:Hid (Bp w1 d.a d.n (((List.range d.n).map d.h).map (Value.int .i64))):=hid (by unfold Dw at L0;rw[el]at L0;exact L0);have O1:=hid o1;have B1:=hid b1;clear L0 o1 b1;have OR:Hid (w1.ownsRow w 2 1 (.slice a1 c.n k1) c.n (((List.range c.n).map c.h).map (Value.int .i64))):=hid (by have:=O1.out;unfold Az at this;rw[el1]at this;exact this);have s1:=B1.out.size;go_wp2_with(refine BU underlying55 Tryz.info2 rfl (by omega) _ rfl _ _ rfl w (.slice a1 c.n k1) c.n (((List.range c.n).map c.h).map (Value.int .i64)) rfl OR d.a d.n d.k (((List.range d.n).map d.h).map (Value.int .i64)) rfl (by simp) L (fun u hu=>by obtain⟨y,_,rfl⟩:=List.mem_map.1 hu;rfl) (by omega) (by omega) s1 ?_;intro a3 c3 w3 o3 g3;rw[<-List.map_append]at o3)
 obtain⟨S,hS⟩:∃S,S=(List.range c.n).map c.h++(List.range d.n).map d.h:=⟨_,rfl⟩;rw[<-hS]at o3;have LS:Hid (S.length=c.n+d.n):=hid (by rw[hS];simp);have HS:=hid hS;have O3:Hid (Az w3 w (.slice a3 (c.n+d.n) c3) S):=hid (by unfold Az;rw[LS.out];exact o3);have B3:Hid (Below w w w3):=hid (B1.out.trans (below_grown g3 B1.out.size (fun j e=>(World.ownsRow.lt OR j e).1)));have SO:=hid (Rr w _ S w3 O3 (by rw[LS.out];omega));clear o3 g3 hS L OR O1 el el1 s1 CC HD B1;refine SO.out.mono ?_;rintro e w4 ⟨rfl,o4,g4⟩;have B4:Hid (Below w w w4):=hid (B3.out.trans (below_grown g4 B3.out.size (fun j e=>(World.ownsRow.lt O3 j e).1)));have E4:Hid (c.n+d.n=(Cy S).length):=hid (by rw[GM,LS.out]);have O4:Hid (Az w4 w (.slice a3 (Cy S).length c3) (Cy S)):=hid (by rw[<-E4.out];exact o4);have CP:Hid (Calls prog 132 #[.slice a3 (c.n+d.n) c3] w4 _):=hid (by rw[E4.out];exact S9 w c3 a3 (Cy S) w4 O4 (by rw[<-E4.out];omega));clear o4 g4 SO O3;go_wp2_with fail
 refine CP.out.mono ?_;rintro e w5 ⟨rfl,o5,g5⟩;have O5:=hid o5;have B5:Hid (Below w w w5):=hid (B4.out.trans (below_grown g5 B4.out.size (fun j e=>(World.ownsRow.lt O4 j e).1)));clear o5 g5;go_wp2;go_ret;exact⟨a3,c3,_,by rw[HS.out],rfl,O5,B5⟩
theorem Mh{F:Func}(hF:F.results=#[.tmp 2,.tmp 3])(tmps:Array Value)(W:World)(x y:Value)(h2:tmps[2]? =some x)(h3:tmps[3]? =some y):
 (results F tmps).run prog W= .ok (.tuple #[x,y]) W:=by
 simp[results,hF,go_sem,h2,h3]
theorem Q0(E:Nat->Addr)(w:World)(B P:Nat)(s:Al)(g ca q co:Nat)(lt:List Ae)(lo:List Ab)(t:Nat)(m:Value)(h:Ew w B P s g ca q co lt lo t m)(he:Ks w E)(hB:B<=w.heap.size)(ht:t<lt.length)(X:Ae)(hX:X=lt[t])(hf:X.made=30∨X.own.n=10):
 Calls prog 73 #[.pointer P] w fun e w'=>∃(v:Value),e= .returned (.tuple #[.string ⟨#[]⟩,v])/\Ew w' B P s g ca q co lt lo t m/\Below B w w'/\Told w' B E v 5:=by
 obtain⟨CW,gl⟩:=h.st.jJ ht;rw[<-hX]at CW;have q6:w.cell? ⟨g,t*7+6,none⟩=some (.int .i64 X.made):=CW.c6;have q5:w.cell? ⟨g,t*7+5,none⟩=some (.slice X.own.a X.own.n X.own.k):=CW.c5;obtain⟨_,_,_,c12,_⟩:=h.wk.jZ;have e4:=(he 4 (by omega) (by omega)).1;have e5:=(he 5 (by omega) (by omega)).1;have HW:=hid h;clear h he hX CW;by_cases h1:X.made=30
 ·have b1:(X.made==30)=true:=by simpa using h1
  clear hf;rw[h1]at q6;go_enter func73,ntmps73
  go_wp2_with fail
  refine(CR 5 257 (.pointer (some (E 4))) w).mono ?_;rintro e w2 ⟨rfl,rfl⟩;go_wp2;have b2:Below w w (w.alloc (.cells #[.int .i64 5,.iface 257 (.pointer (some (E 4)))] 54)):=Be w _;exact bodyPost_ret (Mh Tryz.results73 _ _ _ _ rfl rfl) rfl ⟨_,rfl,HW.out.below b2,b2.mono hB,.inr ⟨by decide,_,4,rfl,Ah.new w _,by decide,by decide,by decide,hB⟩⟩
 ·have b1:(X.made==30)=false:=by simpa using h1
  have h2:X.own.n=10:=by rcases hf with h|h;exact absurd h h1;exact h
  clear hf;rw[h2]at q5;go_enter func73,ntmps73
  go_wp2_with fail
  refine(CR 5 257 (.pointer (some (E 5))) w).mono ?_;rintro e w2 ⟨rfl,rfl⟩;go_wp2;have b2:Below w w (w.alloc (.cells #[.int .i64 5,.iface 257 (.pointer (some (E 5)))] 54)):=Be w _;exact bodyPost_ret (Mh Tryz.results73 _ _ _ _ rfl rfl) rfl ⟨_,rfl,HW.out.below b2,b2.mono hB,.inr ⟨by decide,_,5,rfl,Ah.new w _,by decide,by decide,by decide,hB⟩⟩
end Go.Proofs.YtefoofaocbjdoaaGreatDoor
