import Derived.Deep.CutBlock
import Derived.Shelf.SlicesG.Delete
import Derived.Shelf.SlicesG.CompactI
import Derived.Ground.SlgnProg
import Derived.Test.YtdaccbddcjlkpaaGreatDoorZ8p
set_option maxRecDepth 100000
set_option maxHeartbeats 16000000
namespace Go.Proofs.YtdaccbddcjlkpaaGreatDoor
open Go Go.RowKit Go.Deep Go.Maps Go.BigFrame Go.Shelf Go.Proofs.Tryz
open Go.Value renaming slice→qV,pointer→pT
open Go.Ending renaming returned→rT
open _root_.List renaming set→qF,mem_append→jq
open _root_.Nat renaming lt_of_lt_of_le→qv,le_trans→qj
open Go.RowKit renaming Below→qN
def LY(w:World)(E:Nat->Addr):Prop:=∀i,i<14->i≠3->w.cell? ⟨i,0,none⟩=some (.iface 314 (pT (some (E i))))/\i<w.heap.size
theorem LY.below{w w':World}{E:Nat->Addr}{B:Nat}(h:LY w E)(hB:14<=B)(hb:qN B w w'):LY w' E:=fun i h1 h2=>by
 obtain⟨a,b⟩:=h i h1 h2;exact⟨by rw[hb.cell (show i<B by omega)];exact a,qv b hb.size⟩
def Told(w:World)(B:Nat)(E:Nat->Addr)(v:Value)(c:Int):Prop:=(c=0/\v= .nilIface)∨(c≠0/\∃r i,v= .iface 141 (pT (some ⟨r,0,none⟩))/\Ag w r (.cells #[.int .i64 c,.iface 314 (pT (some (E i)))] 145)/\i≠0/\i<14/\i≠3/\B<=r)
theorem Fg.setLab{w0 wr:World}{B P:Nat}{s:Aj}{g ca q co:Nat}{lt:List Ae}{lo:List Ab}{t:Nat}{m:Value}(h0:Fg w0 B P s g ca q co lt lo t m)(h:Fg wr B P s g ca q co lt lo t m){b:Int}{d:As}(ht:t<lt.length){X:Ae}(hX:X=lt[t])(hd:d.new w0 wr)(hB:B<=w0.heap.size):
 Fg ((wr.setCell ⟨g,t*7+1,none⟩ (.int .i64 b)).setCell ⟨g,t*7+2,none⟩ (qV d.a d.n d.k)) B P s g ca q co (lt.set t ⟨X.id,b,d,X.b2,X.c2,X.own,X.made⟩) lo t m/\B<=g/\∃cur,Ag wr g (.cells cur 53):=by
 obtain⟨k1,⟨cur,hc⟩,hg⟩:=h.st.setLab (b:=b) ht hX (hd.low hB);have el:(lt.set t (⟨X.id,b,d,X.b2,X.c2,X.own,X.made⟩:Ae)).length=lt.length:=by simp
 have hn:X.cb.Nodup:=Dr (L:=lt.map Ae.cb) (t:=t) (by simp[ht,hX]) h.ap.c;have hi:X.own.bs.Nodup:=Dr (L:=lt.map fun x=>x.own.bs) (t:=t) (by simp[ht,hX]) h.ap.i;have hx:=h0.st.tn _ (List.getElem_mem ht);rw[<-hX]at hx;have hcb:(d.bs++X.c2.bs).Nodup:=List.perm_append_comm.nodup_iff.2 (Dt (M:=w0.heap.size) hx.2.1.bs.1 hd.bs.1 (fun x hx'=>(hx.2.1.bs.2 x hx').2) (fun x hx'=>(hd.bs.2 x hx').1));refine⟨⟨by rw[el];exact k1,h.ap.setT h0.st ht (x:=⟨X.id,b,d,X.b2,X.c2,X.own,X.made⟩) hcb (fun y hy=>?_) hi (fun y hy=> .inl (by rw[<-hX];exact hy)),by rw[el];exact(h.wk.other (Ne.symm h.setP.1) _).other (Ne.symm h.setP.1) _,h.lp⟩,hg,cur,hc⟩;rcases jq.1 hy with hy|hy
 ·exact .inr (hd.bs.2 y hy).1
 ·exact .inl (by rw[<-hX];exact jq.2 (.inr hy))
theorem YG(E:Nat->Addr)(w:World)(B P:Nat)(s:Aj)(g ca q co:Nat)(lt:List Ae)(lo:List Ab)(t:Nat)(m:Value)(h:Fg w B P s g ca q co lt lo t m)(he:LY w E)(h14:14<=B)(hB:B<=w.heap.size)(hs:∀W,qN B w W->s.at W)(ht:t<lt.length)(X:Ae)(hX:X=lt[t])(f1 f2:Bool)
 (F1:∀W,qN w w W->Calls prog 179 #[.agg #[X.b1,X.c1],X.own,.agg #[s.b1,s.c1]] W fun e w'=>e= rT (.bool f1)/\qN W W w')
 (F2:∀W,qN w w W->Calls prog 179 #[.agg #[s.b1,s.c1],X.own,.agg #[X.b2,X.c2]] W fun e w'=>e= rT (.bool f2)/\qN W W w')(hf:Iu X s=(f1&&f2))(sn:s.c1.n<=1048576):
 Calls prog 146 #[pT P] w fun e w'=>∃(v:Value) (x:Ae) (c:Int),e= rT v/\Fg w' B P s g ca q co (lt.set t x) lo t m/\qN B w w'/\Told w' B E v c/\((c=4/\Iu X s=false/\x=X)∨(c=0/\Iu X s=true/\∃d:As,s.c1.same d/\x=⟨X.id,s.b1,d,X.b2,X.c2,X.own,X.made⟩)):=by
 obtain⟨CW,gl⟩:=h.st.jJ ht;rw[<-hX]at CW;obtain⟨⟨s0,s1,s2,s3,s4,s5,s6,s7,s8,s9⟩,_,_,c12,_⟩:=Ag.jZ (show Ag w.drew P _ from h.wk);obtain⟨⟨k0,k1,k2,k3,k4,k5,k6,k7,k8,k9⟩,_,_,v12,_⟩:=h.wk.jZ;have pl:P<w.heap.size:=h.wk.lt;have n1:¬P=w.heap.size:=by omega
 have n2:¬w.heap.size=P:=by omega
 have HW:=qC h;have HE:=qC he;have HF1:=qC F1;have HF2:=qC F2;have HX:=qC hX;have HS:=qC hs;clear h he F1 F2 hX hs;go_enter func146,ntmps146
 go_upto_region 1 with fail
 go_cut[3,4] from 5 (fun a b wc=>a= pT (w)/\b= pT (some ⟨g,t*7,none⟩)/\wc=(w.alloc (.cells s 50)).drew)
 case first=>
  go_region_law fail
  all_goals(
   go_wp2_with fail
   go_meet;case rel=>exact⟨rfl,rfl,rfl⟩)
 case rest=>
  obtain⟨rfl,rfl,rfl⟩:=hcut;have n3:No (.cells s 50):=⟨⟩;have b0:qN w w (w.alloc n3).drew:=(Bg w _).drew;have A0:Hid (Ag (w.alloc n3).drew w n3):=qC (show Ag (w.alloc n3) w _ from Ag.new w _);have H0:=qC (HW.out.below b0);have B0:=qC b0;have C0:=qC (CW.below gl b0);have gl0:g<((w.alloc n3).drew).heap.size:=qv gl b0.size;clear s0 s1 s2 s3 s4 s5 s6 s7 s8 s9 c12 k0 k1 k2 k3 k4 k5 k6 k7 k8 k9 v12 CW n1 n2 b0;generalize hV:(w.alloc n3).drew=V at *;clear hV;have V0:=qC (Below.refl V V);have EF:Hid (∀args w,(callFunc 179 args).run prog w= .ok (.enter 179 args) w):=qC (enters_of func179 kR rfl);go_upto_region 2 with fail
  go_cut[38] from 5 (fun v wc=>v= .bool (!(f1&&f2))/\qN V V wc)
  case first=>
   obtain⟨x0,x1,x2,x3,x4,x5,x6,x7,x8,x9⟩:=Ag.jE (show Ag V.drew w _ from A0.out);have C1:FA V.drew g (t*7) X:=C0.out.below gl0 (Below.refl _ V).drew;have y1:V.drew.cell? ⟨g,t*7+1,none⟩=some (.int .i64 X.b1):=C1.c1;have y2:V.drew.cell? ⟨g,t*7+1+1,none⟩=some (qV X.c1.a X.c1.n X.c1.k):=C1.c2;have y3:V.drew.cell? ⟨g,t*7+3,none⟩=some (.int .i64 X.b2):=C1.c3;have y4:V.drew.cell? ⟨g,t*7+3+1,none⟩=some (qV X.c2.a X.c2.n X.c2.k):=C1.c4;have y5:V.drew.cell? ⟨g,t*7+5,none⟩=some (qV X.own.a X.own.n X.own.k):=C1.c5;have D0:=qC (Below.refl V V).drew;have W0:=qC (Af B0 (Below.refl V V).drew);have n5:Na #[X.b1,X.c1]:=⟨⟩;have n6:Na #[s.b1,s.c1]:=⟨⟩;have P1:Hid (Calls prog 179 #[.agg n5,X.own,.agg n6] V.drew fun e w'=>∃v,e= rT v/\(v= .bool f1/\qN V.drew.heap.size V.drew w')):=qC ((HF1 _ W0).mono fun _ _ h=>⟨_,h.1,rfl,h.2⟩);have BX:Hid (∀W,qN V V W->Ag W w n3/\FA W g (t*7) X):=qC (fun W hW=>⟨A0.out.below hW,C0.out.below gl0 hW⟩);refine Am 26 (fun W=>qN V V W) kR ?_;have n4:Nv (pT (some ⟨g,t*7,none⟩)):=⟨⟩;refine tr 0 13 n4 D0 ?_;refine tr 1 14 n4 D0 ?_;refine tr 2 15 (pT (some ⟨g,t*7+1,none⟩)) D0 ?_;refine tr 3 16 (.agg n5) D0 ?_ (hy:=fun W h=>by have C:=(BX W h).2;have y1:W.cell? ⟨g,t*7+1,none⟩=some (.int .i64 X.b1):=C.c1;have y2:W.cell? ⟨g,t*7+1+1,none⟩=some (qV X.c1.a X.c1.n X.c1.k):=C.c2;go_simp);refine tr 4 17 n4 D0 ?_;refine tr 5 18 n4 D0 ?_;have n10:Nv (pT (some ⟨g,t*7+5,none⟩)):=⟨⟩;refine tr 6 19 n10 D0 ?_;refine tr 7 20 (qV X.own.a X.own.n X.own.k) D0 ?_ (hy:=fun W h=>by have C:=(BX W h).2;have y5:W.cell? ⟨g,t*7+5,none⟩=some (qV X.own.a X.own.n X.own.k):=C.c5;go_simp);have n9:Nv (pT (some ⟨w,6,none⟩)):=⟨⟩;refine tr 8 21 n9 D0 ?_;refine tr 9 22 (.agg n6) D0 ?_ (hy:=fun W h=>by obtain⟨x0,x1,x2,x3,x4,x5,x6,x7,x8,x9⟩:=(BX W h).1.jE;go_simp);refine Ac (i:=10) kR rfl ?_;intro K hK;refine Dq qK 179 _ _ _ _ qK EF _ _ _ qK qK qK (some 23) qK _ P1 ?_;rintro v w1 ⟨rfl,b1⟩;have V1:=qC (Af D0 b1);refine hK _ _ (fun _=>V1) ?_;clear hK K b1;simp only[ap,qF];refine tr 11 24 (.bool (!f1)) V1 ?_;refine tr 12 25 (.bool (!f1)) V1 ?_;cases f1 with
   |false=>
    refine Qx 12 [(13,26),(14,27),(15,28),(16,29),(17,30),(18,31),(19,32),(20,33),(21,34),(22,35),(23,36),(24,37)] rfl kR V1 ?_;simp only[Fh,ap,qF];refine tr 25 38 (.bool true) V1 ?_;refine Ai kR ?_ _;go_wp2_with fail
    go_meet;case rel=>exact⟨rfl,V1⟩
   |true=>
    refine tr 13 26 n9 V1 ?_;have n7:Na #[s.b1,s.c1]:=⟨⟩;refine tr 14 27 (.agg n7) V1 ?_ (hy:=fun W h=>by obtain⟨x0,x1,x2,x3,x4,x5,x6,x7,x8,x9⟩:=(BX W h).1.jE;go_simp);refine tr 15 28 n4 V1 ?_;refine tr 16 29 n4 V1 ?_;refine tr 17 30 n10 V1 ?_;refine tr 18 31 (qV X.own.a X.own.n X.own.k) V1 ?_ (hy:=fun W h=>by have C:=(BX W h).2;have y5:W.cell? ⟨g,t*7+5,none⟩=some (qV X.own.a X.own.n X.own.k):=C.c5;go_simp);refine tr 19 32 n4 V1 ?_;refine tr 20 33 n4 V1 ?_;refine tr 21 34 (pT (some ⟨g,t*7+3,none⟩)) V1 ?_;have n8:Na #[X.b2,X.c2]:=⟨⟩;refine tr 22 35 (.agg n8) V1 ?_ (hy:=fun W h=>by have C:=(BX W h).2;have y3:W.cell? ⟨g,t*7+3,none⟩=some (.int .i64 X.b2):=C.c3;have y4:W.cell? ⟨g,t*7+3+1,none⟩=some (qV X.c2.a X.c2.n X.c2.k):=C.c4;go_simp);have P2:Hid (Calls prog 179 #[.agg n7,X.own,.agg n8] w1 fun e w'=>∃v,e= rT v/\(v= .bool f2/\qN w1 w1 w')):=qC ((HF2 _ (Af B0 V1)).mono fun _ _ h=>⟨_,h.1,rfl,h.2⟩);refine Ac (i:=23) kR rfl ?_;intro K hK;refine Dq qK 179 _ _ _ _ qK EF _ _ _ qK qK qK (some 36) qK _ P2 ?_;rintro v w2 ⟨rfl,b2⟩;have V2:=qC (Af V1 b2);refine hK _ _ (fun _=>V2) ?_;clear hK K b2;simp only[ap,qF];refine tr 24 37 (.bool (!f2)) V2 ?_;refine tr 25 38 (.bool (!f2)) V2 ?_;refine Ai kR ?_ _;go_wp2_with fail
    go_meet;case rel=>exact⟨rfl,V2⟩
  case rest=>
  obtain⟨rfl,hb⟩:=hcut;rename_i wc;have V1:=qC hb;clear hb;generalize (f1&&f2)=z at *;have HZ:=qC hf;clear hf;have H1:=qC (H0.out.below V1);have B1:=qC (Af B0 V1);cases z with
  |false=>
   have e9:=(HE.out.below h14 (B1.out.mono hB) 9 qQ qQ).1;go_wp2_with fail
   refine(Bv 314 (pT (some (E 9))) wc).mono ?_;rintro e w2 ⟨rfl,rfl⟩;go_wp2;go_ret;have b2:qN wc wc (wc.alloc (.cells #[.int .i64 4,.iface 314 (pT (some (E 9)))] 145)):=Bg wc _;refine⟨_,X,4,rfl,by rw[HX.out,FE];exact H1.out.below b2,(Af B1 b2).mono hB,.inr ⟨by decide,_,9,rfl,Ag.new wc _,by decide,by decide,by decide,qj hB B1.out.size⟩,.inl ⟨rfl,HZ,rfl⟩⟩
  |true=>
   obtain⟨x0,x1,x2,x3,x4,x5,x6,x7,x8,x9⟩:=(A0.out.below V1).jE;go_wp2_with fail
   refine(Bm s.b1 s.c1 wc (HS _ (B1.out.mono hB)).1 sn).mono ?_;rintro e w2 ⟨d,rfl,sd,nd,b2⟩;have H2:=qC (H1.out.below b2);obtain⟨S3,hg,cur,hcu⟩:=H1.out.setLab H2 (b:=s.b1) ht HX nd (qj hB B1.out.size);have S3':=qC S3;have B2:=qC ((Af B1 b2).mono hB);have SD:=qC sd;have gf:=hcu.jC;obtain⟨C2,_⟩:=H2.out.st.jJ ht;rw[<-HX.out]at C2;have c1:w2.cell? ⟨g,t*7+1,none⟩=some (.int .i64 X.b1):=C2.c1;have c2:w2.cell? ⟨g,t*7+1+1,none⟩=some (qV X.c1.a X.c1.n X.c1.k):=C2.c2;clear C2;clear S3 sd nd b2 x0 x1 x2 x3 x4 x5 x6 x7 x8 x9;unfold As.val;go_wp2;go_ret;refine⟨_,⟨X.id,s.b1,d,X.b2,X.c2,X.own,X.made⟩,0,rfl,S3',?_,.inl ⟨rfl,rfl⟩,.inr ⟨rfl,HZ,d,SD,rfl⟩⟩;exact(B2.out.setCell hg _).setCell hg _
def Tryz.delA_ren:Go.Shelf.Ren:=⟨fun|45=>181|n=>n,fun|22=>51|23=>2|3=>3|4=>4|0=>0|n=>n,fun|n=>n⟩
theorem Tryz.delA:Go.Proofs.SlLaysN.n45 prog Tryz.delA_ren:={
 mixed:=by kernel_rfl
 f45:=⟨Tryz.f181.name,by decide,func181.trans (congrArg some (by kernel_rfl))⟩
 t0:=underlying0
 a0:=isAgg0
 z0:=sizeOf0
 v0:=zeroValue0
 t3:=underlying3
 a3:=isAgg3
 z3:=sizeOf3
 v3:=zeroValue3
 t4:=underlying4
 a4:=isAgg4
 z4:=sizeOf4
 v4:=zeroValue4
 t22:=underlying51
 a22:=isAgg51
 z22:=sizeOf51
 v22:=zeroValue51
 t23:=underlying2
 a23:=isAgg2
 z23:=sizeOf2
 v23:=zeroValue2
 i23:=by kernel_rfl}
def Tryz.compA_ren:Go.Shelf.Ren:=⟨fun|43=>196|n=>n,fun|22=>51|23=>2|3=>3|4=>4|0=>0|n=>n,fun|n=>n⟩
theorem Tryz.compA:Go.Proofs.SlLaysN.n43 prog Tryz.compA_ren:={
 mixed:=by kernel_rfl
 f43:=⟨Tryz.f196.name,by decide,func196.trans (congrArg some (by kernel_rfl))⟩
 t0:=underlying0
 a0:=isAgg0
 z0:=sizeOf0
 v0:=zeroValue0
 t3:=underlying3
 a3:=isAgg3
 z3:=sizeOf3
 v3:=zeroValue3
 t4:=underlying4
 a4:=isAgg4
 z4:=sizeOf4
 v4:=zeroValue4
 t22:=underlying51
 a22:=isAgg51
 z22:=sizeOf51
 v22:=zeroValue51
 t23:=underlying2
 a23:=isAgg2
 z23:=sizeOf2
 v23:=zeroValue2
 i23:=by kernel_rfl}
open _root_.List renaming range→qx,getElem_of_mem→xJ,length_map→kX,getElem_map→xj
theorem aB(a:Option Addr)(n cap:Nat)(h:Nat->Int)(x:Int)(w:World)(hn:n<=maxLen)(hc:Bp w a n h):
 Calls prog 180 #[.slice a n cap,.int .i64 x] w fun e w'=>w'=w/\((e= .returned (.int .i64 (-1))/\hasB n h x=false)∨∃i:Nat,i<n/\h i=x/\(∀j,j<i->h j≠x)/\hasB n h x=true/\e= .returned (.int .i64 i)):=by
 unfold maxLen at hn;go_enter func180,ntmps180
 go_wp2;go_loop [8] (fun i=>∃k:Nat,k<=n/\i= .int .i64 k/\(∀j,j<k->h j≠x)) (fun i=>n-(intOf i).toNat)
 case atStart=>exact⟨0,Nat.zero_le _,rfl,fun j hj=>by omega⟩
 case round=>
  obtain⟨k,hk,rfl,hall⟩:=hrel;have HA:Hid (∀j,j<k->h j≠x):=hall;clear hall;by_cases hlt':k<n
  ·obtain⟨b,off,rfl,hlt,hcc⟩:=hc qQ;have g1:=hcc k hlt';clear hcc hc;by_cases t:(x==h k)=true
   ·go_wp2;go_ret;exact⟨rfl,.inr ⟨k,hlt',(by simpa using(beq_iff_eq.1 t).symm),HA,Py hlt' (by simpa using(beq_iff_eq.1 t).symm),rfl⟩⟩
   ·have t':(x==h k)=false:=(by simpa using t);clear t;go_wp2;go_round;case rel=>
     refine⟨k+1,by omega,by go_num,fun j hj=>?_⟩;by_cases e:j=k
     ·subst e;intro q;rw[q]at t';simp at t'
     ·exact HA.out j qQ
    case measure=>simp[intOf];omega
  ·clear hc;go_wp2;go_ret;have e:k=n:=qQ;subst e;exact⟨rfl,.inl ⟨rfl,Sz HA⟩⟩
theorem Zq{h:Nat->Int}{c:Int}:∀{n i:Nat},i<n->h i=c->(∀j,j<n->j≠i->h j≠c)->Dm h c n=((qx n).map h).take i++((qx n).map h).drop (i+1):=by
 intro n i hi he ho;unfold Dm;have e1:(qx n).map h=((qx n).map h).take i++(h i::((qx n).map h).drop (i+1)):=by
  have hl:i<((qx n).map h).length:=by simpa using hi
  have:=List.take_append_drop i ((qx n).map h);rw[List.drop_eq_getElem_cons hl]at this;simpa using this.symm
 have p1:∀y∈((qx n).map h).take i,y≠c:=fun y hy=>by
  obtain⟨j,hj,rfl⟩:=xJ hy;simp only[List.length_take,kX,List.length_range]at hj;simp only[List.getElem_take,xj,List.getElem_range];exact ho j qQ qQ
 have p2:∀y∈((qx n).map h).drop (i+1),y≠c:=fun y hy=>by
  obtain⟨j,hj,rfl⟩:=xJ hy;simp only[List.length_drop,kX,List.length_range]at hj;simp only[List.getElem_drop,xj,List.getElem_range];exact ho _ qQ qQ
 conv=>lhs;rw[e1]
 rw[List.filter_append,List.filter_cons];have q1:(((qx n).map h).take i).filter (fun y=> !decide (y=c))=((qx n).map h).take i:=List.filter_eq_self.2 (fun y hy=>by simp[p1 y hy]);have q2:(((qx n).map h).drop (i+1)).filter (fun y=> !decide (y=c))=((qx n).map h).drop (i+1):=List.filter_eq_self.2 (fun y hy=>by simp[p2 y hy]);rw[q1,q2];simp[he]
open Go.Sort
open _root_.List renaming replicate→xk
open _root_.Array renaming getElem?_modify→kY
variable {w:World}{g n:Nat}
theorem Tp{n:Nat}{cur:Array Value}{e:TypeId}{fr:Nat×Nat}(d:Array Int)(hb:w.heap[g]? =some (.cells cur e fr)):
 (putRow (Value.int .i64) (Sort.ahead w n) g 0 d).heap[g]? =some (.cells (putCells (Value.int .i64) 0 d cur) e fr):=by
 simp[putRow,mapBlock,Sort.ahead,kY,hb,onCells]
theorem Q7(d:Array Int):w.grownBy (putRow (Value.int .i64) (Sort.ahead w n) g 0 d) (some g):=by
 refine⟨rfl,rfl,rfl,by simp[Sort.ahead],fun k hk hne=>?_⟩;have:g≠k:=fun e=>hne (by rw[e]);simp[putRow,mapBlock,Sort.ahead,kY,this]
theorem Wu(c:AJ)(B:Nat)(w:World)(hc:c.new B w)(hk:c.n<=c.k/\c.k<=maxLen)(i:Nat)(hi:i<c.n):
 Calls prog 181 #[c,.int .i64 i,.int .i64 (i+1)] w fun e w'=>∃b,c.a=some ⟨b,0,none⟩/\e= .returned (.slice c.a (c.n-1) c.k)/\w.grownBy w' (some b)/\(⟨c.a,c.n-1,c.k,AZ (((qx c.n).map c.h).take i++((qx c.n).map c.h).drop (i+1))⟩:AJ).new B w':=by
 obtain⟨b,m,F,ea,h1,h2,cur,hcur,hsz,hF⟩:=hc.2 qQ;obtain⟨b',off,ea',hlt,hcc⟩:=hc.1.2 qQ;rw[ea]at ea';cases ea';have hl:((qx c.n).map c.h).length=c.n:=by simp
 have hH:Holds (Value.int .i64) w b 0 ((qx c.n).map c.h).toArray:=fun j hj=>by
  simp only[List.size_toArray,hl]at hj;refine⟨?_,?_⟩
  ·have:=hcc j hj;simpa[hj]using this
  ·simp[World.frozen?,hcur]
 have km:c.k<=9223372036854775807:=by have:=hk.2;unfold maxLen at this;exact this
 have h:Calls prog 181 _ w _:=AnyG.slices_Delete_int Tryz.delA b 0 c.k i (i+1) ((qx c.n).map c.h) w hH (by rw[hl];exact hk.1) km qQ (by rw[hl];omega);rw[hl,show c.n-(i+1-i)=c.n-1 from by omega,show i+1-i=1 from by omega]at h;have ei:((i+1:Nat):Int)=(i:Int)+1:=by omega
 rw[ei]at h;rw[ea];refine h.mono ?_;rintro e w' ⟨rfl,q,rfl⟩;generalize hL:((qx c.n).map c.h).take i++((qx c.n).map c.h).drop (i+1)=L;have ll:L.length=c.n-1:=by rw[<-hL];simp;omega
 have hp:=Tp (n:=q) (L++xk 1 0).toArray hcur;have cell:∀j,j<c.n-1->(putRow (Value.int .i64) (Sort.ahead w q) b 0 (L++xk 1 0).toArray).cell? ⟨b,0+j,none⟩=some (.int .i64 (AZ L j)):=fun j hj=>by
  have hj':j<L.length:=by omega
  have hjc:j<cur.size:=by omega
  simp only[World.cell?,hp];simp[putCells,hjc,show j<L.length+1 by omega,AZ,hj']
 refine⟨b,rfl,rfl,Q7 _,⟨Nat.le_trans (Nat.sub_le _ _) hc.1.1,fun _=>⟨b,0,rfl,?_,cell⟩⟩,fun _=>⟨b,m,fun k=>((putCells (Value.int .i64) 0 (L++xk 1 0).toArray cur)[k]?).getD undef,rfl,h1,by show c.n-1<=m;omega,⟨_,hp,by simp[putCells,hsz],fun k hk'=>?_⟩⟩⟩
 ·simpa[Sort.ahead]using hlt
 ·have:k<(putCells (Value.int .i64) 0 (L++xk 1 0).toArray cur).size:=by simp[putCells];omega
  show _=some ((putCells (Value.int .i64) 0 (L++xk 1 0).toArray cur)[k]?.getD undef);rw[Array.getElem?_eq_getElem this];rfl
open Go.World renaming ownsRow→qq
open _root_.Option renaming some→jV
open _root_.List renaming getElem_mem→qk,getElem?_append_left→kP
theorem Oa:∀{L:List (List Nat)},L.flatten.Nodup->∀{i j:Nat}{a b:List Nat}{x:Nat},L[i]? =some a->L[j]? =some b->i≠j->x∈a->x∈b->False
 |[],_,i,_,_,_,_,h,_,_,_,_=>by simp at h
 |l::r,hn,i,j,a,b,x,hi,hj,ne,ha,hb=>by
  rw[List.flatten_cons,List.nodup_append]at hn;obtain⟨_,h2,h3⟩:=hn;have up:∀{k:Nat}{c:List Nat},r[k]? =some c->∀y∈c,y∈r.flatten:=fun{k c} hk y hy=>List.mem_flatten.2 ⟨c,List.mem_of_getElem? hk,hy⟩;match i,j with
  |0,0=>exact ne rfl
  |0,j+1=>
   simp at hi;subst hi;simp at hj;exact h3 x ha x (up hj x hb) rfl
  |i+1,0=>
   simp at hj;subst hj;simp at hi;exact h3 x hb x (up hi x ha) rfl
  |i+1,j+1=>
   simp at hi hj;exact Oa h2 hi hj qQ ha hb
section
variable {w w':World}{B b m:Nat}{F:Nat->Value}
theorem As.new.beside{c:As}(h:c.new B w)(hr:w.rowIs b 2 m F)(hg:w.grownBy w' (some b)):c.new B w':=h.of hg.size (fun b' e hn=>by
 obtain⟨b'',m',F',e',_,_,hr'⟩:=h.2 hn;rw[e]at e';cases e';exact hg.block b' hr'.lt (fun ee=>Fz hr' hr qX (by have:=jV.inj ee;omega)))
theorem AE.new.beside{c:AE}(h:c.new B w)(hr:w.rowIs b 2 m F)(hg:w.grownBy w' (some b)):c.new B w':=h.of hg.size (fun b' e hn=>by
 obtain⟨b'',m',F',e',_,_,hr'⟩:=h.2 hn;rw[e]at e';cases e';exact hg.block b' hr'.lt (fun ee=>Fz hr' hr qX (by have:=jV.inj ee;omega)))
theorem AJ.new.beside{c:AJ}(h:c.new B w)(hn:b∉c.bs)(hg:w.grownBy w' (some b)):c.new B w':=h.of hg.size (fun b' e h0=>by
 obtain⟨b'',m',F',e',_,_,hr'⟩:=h.2 h0;rw[e]at e';cases e';refine hg.block b' hr'.lt (fun ee=>hn ?_);have:b=b':=by have:=jV.inj ee;omega
 subst this;unfold AJ.bs;rw[if_pos h0,e];simp)
end
theorem Bz.ownRow{w w':World}{B g ca b:Nat}{vo:Value}{lt:List Ae}{lo:List Ab}(h:Bz w B (.slice g lt.length ca) vo lt lo)(ha:Apart lt lo){t:Nat}(ht:t<lt.length){X:Ae}(hX:X=lt[t])(hb:X.own.a=some ⟨b,0,none⟩)(hn:0<X.own.n)(hg:w.grownBy w' (some b)){d:AJ}(hd:d.new B w')(hdc:d.n<=d.k/\d.k<=maxLen):
 Bz (w'.setCell ⟨g,t*7+5,none⟩ (.slice d.a d.n d.k)) B (.slice g lt.length ca) vo (lt.set t ⟨X.id,X.b1,X.c1,X.b2,X.c2,d,X.made⟩) lo/\(∃cur,Ag w' g (.cells cur 53))/\B<=g:=by
 have hx:=h.tn _ (qk ht);rw[<-hX]at hx;obtain⟨b',m,F,eb,hBb,_,hr⟩:=hx.2.2.2 hn;rw[hb]at eb;cases eb;have hbs:b∈X.own.bs:=by unfold AJ.bs;rw[if_pos hn,hb];simp
 have other:∀{v:Value}{ty:TypeId}{sz n:Nat}{cs:List Value},w.ownsRow B ty sz v n cs->ty≠2->v.ownBlock=none∨v.ownBlock≠some b:=fun{v ty sz n cs} ho hty=>by
  rcases ho.2 with⟨hv,_⟩|⟨g',cap,cur,hv,_,hgg,_⟩
  ·exact .inl (by rw[hv];rfl)
  ·refine .inr (fun e=>hty ?_);rw[hv]at e;have e2:g'=b:=(by simpa[Value.ownBlock]using e);obtain⟨c,hc,_⟩:=hr;rw[<-e2,hgg]at hc;simp at hc;exact hc.2
 have own:(((lt.map fun x=>x.own.bs)++(lo.map fun x=>x.own.bs)).flatten).Nodup:=by have:=ha.i;simpa using this
 have it:((lt.map fun x=>x.own.bs)++(lo.map fun x=>x.own.bs))[t]? =some X.own.bs:=by
  rw[kP (by simpa using ht)];simp[ht,hX]
 have kt:Du w' B (.slice g lt.length ca) lt:=qq.kept h.t hg (other h.t qX);have ko:AW w' B vo lo:=qq.kept h.o hg (other h.o qX);have ton:∀j (hj:j<lt.length),j≠t->(lt[j]).new B w':=fun j hj ne=>by
  have hy:=h.tn _ (qk hj);refine⟨hy.1.beside hr hg,hy.2.1.beside hr hg,hy.2.2.beside (fun hb2=>?_) hg⟩;exact Oa own (i:=j) (j:=t) (by rw[kP (by simpa using hj)];simp[hj]) it ne hb2 hbs
 have oon:∀y∈lo,y.new B w':=fun y hy=>by
  have hy':=h.on y hy;refine⟨hy'.1.beside hr hg,hy'.2.1.beside hr hg,hy'.2.2.1.beside (fun hb2=>?_) hg,hy'.2.2.2.beside hr hg⟩;obtain⟨j,hj,rfl⟩:=xJ hy;exact Oa own (i:=lt.length+j) (j:=t) (by rw[List.getElem?_append_right sI,List.length_map,Nat.add_sub_cancel_left];simp[hj]) it qQ hb2 hbs
 obtain⟨cur,hcur⟩:∃cur,Ag w' g (.cells cur 53):=by
  rcases kt.2 with⟨hv,_⟩|⟨g',cap,cur,hv,_,hgg,_⟩
  ·cases hv
  ·cases hv;exact⟨cur,hgg⟩
 have hBg:B<=g:=(qq.lt kt g rfl).1;have kl:=Aq (i:=t*7+5) hcur qX (.slice d.a d.n d.k);have ho:=(qq.stored kt (t*7+5) (.slice d.a d.n d.k)).1;have hxn:(⟨X.id,X.b1,X.c1,X.b2,X.c2,d,X.made⟩:Ae).new B w':=⟨hx.1.beside hr hg,hx.2.1.beside hr hg,hd⟩;refine⟨⟨?_,ko.set hcur qX _,fun y hy=>?_,fun y hy=>(oon y hy).keeps kl,fun y hy=>?_,h.oc⟩,⟨cur,hcur⟩,hBg⟩
 ·unfold Du;have e:=Dl (f:=Ae.cs) Ae.jK (l:=lt) (t:=t) (x:=(⟨X.id,X.b1,X.c1,X.b2,X.c2,d,X.made⟩:Ae)) (u:= .slice d.a d.n d.k) (i:=5) ht qQ (by rw[<-hX];rfl);have el:(lt.set t (⟨X.id,X.b1,X.c1,X.b2,X.c2,d,X.made⟩:Ae)).length=lt.length:=by simp
  rw[el];unfold Cn;rw[<-e];exact ho
 ·obtain⟨j,hj,rfl⟩:=xJ hy;rw[List.getElem_set];split
  ·exact hxn.keeps kl
  ·exact(ton j (by simpa using hj) qQ).keeps kl
 ·rcases G8 hy with rfl|hy
  ·exact hdc
  ·exact h.tc y hy
theorem Fg.ownRow{w w':World}{B P b:Nat}{s:Aj}{g ca q co:Nat}{lt:List Ae}{lo:List Ab}{t:Nat}{m:Value}(h:Fg w B P s g ca q co lt lo t m)(ht:t<lt.length){X:Ae}(hX:X=lt[t])(hb:X.own.a=some ⟨b,0,none⟩)(hn:0<X.own.n)(hg:w.grownBy w' (some b)){d:AJ}(hd:d.new B w')(hdc:d.n<=d.k/\d.k<=maxLen)(hda:d.a=X.own.a):
 Fg (w'.setCell ⟨g,t*7+5,none⟩ (qV d.a d.n d.k)) B P s g ca q co (lt.set t ⟨X.id,X.b1,X.c1,X.b2,X.c2,d,X.made⟩) lo t m/\(∃cur,Ag w' g (.cells cur 53))/\B<=g/\B<=b/\Ag w' P (.cells (IN s g lt.length ca q lo.length co t m) 175)/\g≠b:=by
 obtain⟨k1,⟨cur,hcu⟩,hBg⟩:=h.st.ownRow h.ap ht hX hb hn hg hd hdc;have el:(lt.set t (⟨X.id,X.b1,X.c1,X.b2,X.c2,d,X.made⟩:Ae)).length=lt.length:=by simp
 have hx:=h.st.tn _ (qk ht);rw[<-hX]at hx;obtain⟨b',m',F,eb,hBb,_,hr⟩:=hx.2.2.2 hn;rw[hb]at eb;cases eb;have hcb:X.cb.Nodup:=Dr (L:=lt.map Ae.cb) (t:=t) (by simp[ht,hX]) h.ap.c;have pb:P≠b:=fun e=>by
  obtain⟨c,hc,_⟩:=hr;have hw:=h.wk;unfold Ag at hw;rw[e,hc]at hw;simp at hw
 have wk:Ag w' P (.cells (IN s g lt.length ca q lo.length co t m) 175):=h.wk.grown hg (fun e=>pb (by have:=jV.inj e;omega));have gb:g≠b:=fun e=>by
  obtain⟨c,hc,_⟩:=hr;rcases h.st.t.2 with⟨hv,_⟩|⟨g',cap,cur',hv,_,hgg,_⟩
  ·cases hv
  ·cases hv;rw[e,hc]at hgg;simp at hgg
 refine⟨⟨by rw[el];exact k1,h.ap.setT h.st ht (x:=⟨X.id,X.b1,X.c1,X.b2,X.c2,d,X.made⟩) hcb (fun y hy=> .inl (by rw[<-hX];exact hy)) hd.bs.1 (fun y hy=> .inl ?_),by rw[el];exact wk.other (Ne.symm h.setP.1) _,h.lp⟩,⟨cur,hcu⟩,hBg,hBb,wk,gb⟩;rw[<-hX];have hy':y∈d.bs:=hy;unfold AJ.bs at hy' ⊢;rw[hda,hb]at hy';rw[if_pos hn,hb];split at hy'
 ·exact hy'
 ·cases hy'
theorem Yw(E:Nat->Addr)(w:World)(B P:Nat)(s:Aj)(g ca q co:Nat)(lt:List Ae)(lo:List Ab)(t:Nat)(m:Value)(h:Fg w B P s g ca q co lt lo t m)(he:LY w E)(h14:14<=B)(hB:B<=w.heap.size)(ht:t<lt.length)(X:Ae)(hX:X=lt[t])(hr:∀i j,i<j->j<X.own.n->X.own.h i≠X.own.h j):
 Calls prog 147 #[pT P] w fun e w'=>∃(v:Value) (x:Ae) (c:Int),e= .returned v/\Fg w' B P s g ca q co (lt.set t x) lo t m/\Below B w w'/\Told w' B E v c/\((c=4/\hasB X.own.n X.own.h s.cat=false/\x=X)∨(c=0/\hasB X.own.n X.own.h s.cat=true/\∃(a:Option Addr) (cc:Nat),x=⟨X.id,X.b1,X.c1,X.b2,X.c2,⟨a,(Dm X.own.h s.cat X.own.n).length,cc,AZ (Dm X.own.h s.cat X.own.n)⟩,X.made⟩)):=by
 obtain⟨CW,gl⟩:=h.st.jJ ht;rw[<-hX]at CW;have hx:=h.st.tn _ (qk ht);have hxc:=h.st.tc _ (qk ht);rw[<-hX]at hx hxc;have HN:=qC hx;have HC:=qC hxc;have HW:=qC h;have HE:=qC he;have HX:=qC hX;have HR:=qC hr;have n2:No (.cells (IN s g lt.length ca q lo.length co t m) 175):=⟨⟩;have BX:Hid (∀W,Below w w W->Ag W P n2/\FA W g (t*7) X):=qC (fun W hW=>⟨HW.out.wk.below hW,CW.below gl hW⟩);have EI:Hid (∀args w,(callFunc 180 args).run prog w= .ok (.enter 180 args) w):=qC (enters_of func180 kR rfl);have ED:Hid (∀args w,(callFunc 181 args).run prog w= .ok (.enter 181 args) w):=qC (enters_of func181 kR rfl);clear h he hX hr CW hx hxc;have D0:=qC (Below.refl w w).drew;have P1:Hid (Calls prog 180 #[X.own,s.cat] w.drew fun e w'=>∃v,e= .returned v/\(w'=w.drew/\((v= .int .i64 (-1)/\hasB X.own.n X.own.h s.cat=false)∨∃i:Nat,i<X.own.n/\X.own.h i=s.cat/\(∀j,j<i->X.own.h j≠s.cat)/\hasB X.own.n X.own.h s.cat=true/\v= .int .i64 i))):=qC ((aB X.own.a X.own.n X.own.k X.own.h s.cat w.drew HN.out.2.2.1.1 (HN.out.2.2.1.2.below (Below.refl _ w).drew)).mono fun e w' hh=>by
  obtain⟨rfl,⟨rfl,h2⟩|⟨i,h1,h2,h3,h4,rfl⟩⟩:=hh
  ·exact⟨_,rfl,rfl,.inl ⟨rfl,h2⟩⟩
  ·exact⟨_,rfl,rfl,.inr ⟨i,h1,h2,h3,h4,rfl⟩⟩)
 go_enter func147,ntmps147
 go_upto_region 1 with fail
 refine Am 14 (fun W=>Below w w W) kR ?_;have n1:Nv (pT P):=⟨⟩;refine tr 0 4 n1 D0 ?_;refine tr 1 5 n1 D0 ?_;have n4:Nv (pT (some ⟨P,12,none⟩)):=⟨⟩;refine tr 2 6 n4 D0 ?_;have n3:Nv (pT (some ⟨g,t*7,none⟩)):=⟨⟩;refine tr 3 7 n3 D0 ?_ (hy:=fun W h=>by obtain⟨⟨k0,k1,k2,k3,k4,k5,k6,k7,k8,k9⟩,_,_,k12,_⟩:=(BX W h).1.jZ;go_simp);refine tr 4 8 n3 D0 ?_;have n5:Nv (pT (some ⟨g,t*7+5,none⟩)):=⟨⟩;refine tr 5 9 n5 D0 ?_;refine tr 6 10 (qV X.own.a X.own.n X.own.k) D0 ?_ (hy:=fun W h=>by have C:=(BX W h).2;have y5:W.cell? ⟨g,t*7+5,none⟩=some (qV X.own.a X.own.n X.own.k):=C.c5;go_simp);refine tr 7 11 n1 D0 ?_;refine tr 8 12 n1 D0 ?_;refine tr 9 13 n1 D0 ?_;refine tr 10 14 (pT (some ⟨P,4,none⟩)) D0 ?_;refine tr 11 15 (.int .i64 s.cat) D0 ?_ (hy:=fun W h=>by obtain⟨⟨k0,k1,k2,k3,k4,k5,k6,k7,k8,k9⟩,_,_,k12,_⟩:=(BX W h).1.jZ;go_simp);refine Ac (i:=12) kR rfl ?_;intro K hK;refine Ay qK 180 _ _ _ qK EI _ _ qK qK (some 16) qK _ P1 ?_;rintro v w1 ⟨rfl,hv⟩;refine hK _ _ (fun _=>D0) ?_;clear hK K;simp only[ap,qF];rcases hv with⟨rfl,hno⟩|⟨i,hi1,hi2,hi3,hyes,rfl⟩
 ·have HNO:=qC hno;clear hno;refine tr 13 3 (.int .i64 (-1)) D0 ?_;refine Ai kR ?_ _;have e10:=(HE.out.below h14 (D0.out.mono hB) 10 qQ qQ).1;go_wp2_with fail
  refine(Bv 314 (pT (some (E 10))) w.drew).mono ?_;rintro e w2 ⟨rfl,rfl⟩;go_wp2;go_ret;have b2:Below w.drew.heap.size w.drew (w.drew.alloc (.cells #[.int .i64 4,.iface 314 (pT (some (E 10)))] 145)):=(Below.refl _ w.drew).alloc nr _;refine⟨_,X,4,rfl,by rw[HX.out,FE];exact(HW.out.below D0).below b2,(Af D0 b2).mono hB,.inr ⟨by decide,_,10,rfl,Ag.new w.drew _,by decide,by decide,by decide,hB⟩,.inl ⟨rfl,HNO,rfl⟩⟩
 ·have HYE:=qC hyes;have HI2:=qC hi2;have HI3:=qC hi3;clear hyes hi2 hi3;refine tr 13 3 (.int .i64 i) D0 ?_;refine Ai kR ?_ _;have i0:¬(i:Int)<0:=by omega
  have il:X.own.n<=maxLen:=HN.out.2.2.1.1;have w1_:IntKind.i64.wrap ((i:Int)+1)=(i:Int)+1:=by rw[IntKind.wrap_i64];unfold maxLen at il;omega
  go_upto_region 4 with fail
  have D1:=qC D0.out.drew;have H2:=qC (HW.out.below D1);have P2:Hid (Calls prog 181 #[X.own,.int .i64 i,.int .i64 (i+1)] w.drew.drew fun e w'=>∃v,e= .returned v/\∃b,v= qV X.own.a (X.own.n-1) X.own.k/\X.own.a=some ⟨b,0,none⟩/\w.drew.drew.grownBy w' (some b)/\(⟨X.own.a,X.own.n-1,X.own.k,AZ (((qx X.own.n).map X.own.h).take i++((qx X.own.n).map X.own.h).drop (i+1))⟩:AJ).new B w'):=qC ((Wu X.own B w.drew.drew (HN.out.2.2.below D1) HC i hi1).mono fun e w' hh=>by
   obtain⟨b,h1,rfl,h3,h4⟩:=hh;exact⟨_,rfl,b,rfl,h1,h3,h4⟩)
  have Z1:Hid ((fun W=>Ag W P n2/\W.cell? ⟨g,t*7+5,none⟩=some (qV X.own.a X.own.n X.own.k)) w.drew.drew):=qC ⟨(BX _ D1).1,(BX _ D1).2.c5⟩;refine Am 17 (fun W=>Ag W P n2/\W.cell? ⟨g,t*7+5,none⟩=some (qV X.own.a X.own.n X.own.k)) kR ?_;refine tr 0 21 n1 Z1 ?_;refine tr 1 22 n1 Z1 ?_;refine tr 2 23 n4 Z1 ?_;refine tr 3 24 n3 Z1 ?_ (hy:=fun W h=>by obtain⟨⟨k0,k1,k2,k3,k4,k5,k6,k7,k8,k9⟩,_,_,k12,_⟩:=h.1.jZ;go_simp);refine tr 4 25 n1 Z1 ?_;refine tr 5 26 n1 Z1 ?_;refine tr 6 27 n4 Z1 ?_;refine tr 7 28 n3 Z1 ?_ (hy:=fun W h=>by obtain⟨⟨k0,k1,k2,k3,k4,k5,k6,k7,k8,k9⟩,_,_,k12,_⟩:=h.1.jZ;go_simp);refine tr 8 29 n3 Z1 ?_;refine tr 9 30 n5 Z1 ?_;refine tr 10 31 (qV X.own.a X.own.n X.own.k) Z1 ?_ (hy:=fun W h=>by have y5:=h.2;go_simp);refine tr 11 32 (.int .i64 i) Z1 ?_;refine tr 12 33 (.int .i64 i) Z1 ?_;refine tr 13 34 (.int .i64 (i+1)) Z1 ?_;refine Ac (i:=14) kR rfl ?_;intro K hK;refine Dq qK 181 _ _ _ _ qK ED _ _ _ qK qK qK (some 35) qK _ P2 ?_;rintro v w3 ⟨b,rfl,hb,hg3,hd⟩;obtain⟨S3,⟨cur,hcu⟩,hBg,hBb,wk3,gb⟩:=H2.out.ownRow ht HX hb qQ hg3 hd (show X.own.n-1<=X.own.k/\X.own.k<=maxLen from⟨by have:=HC.out.1;omega,HC.out.2⟩) rfl;have c5:w3.cell? ⟨g,t*7+5,none⟩=some (qV X.own.a X.own.n X.own.k):=(World.cell?_of_block (a:=⟨g,t*7+5,none⟩) (hg3.block g gl (fun e=>gb (by have:=jV.inj e;omega)))).trans (BX _ D1).2.c5;have Z3:Hid ((fun W=>Ag W P n2/\W.cell? ⟨g,t*7+5,none⟩=some (qV X.own.a X.own.n X.own.k)) w3):=qC ⟨wk3,c5⟩;refine hK _ _ (fun _=>Z3) ?_;clear hK K;simp only[ap,qF];have S3':=qC S3;have gf:=hcu.jC;have B3:Hid (Below B w w3):=qC ((D1.out.mono hB).trans (below_grown hg3 hB (fun j e=>by have:=jV.inj e;omega)));have LC:Hid (Dm X.own.h s.cat X.own.n=(((qx X.own.n).map X.own.h).take i++((qx X.own.n).map X.own.h).drop (i+1))):=qC (Zq hi1 HI2 (fun j hj ne=>by
   intro e;rcases Nat.lt_or_gt_of_ne ne with h|h
   ·exact HI3.out j h e
   ·exact HR.out i j h hj (HI2.out.trans e.symm)))
  have LL:Hid ((Dm X.own.h s.cat X.own.n).length=X.own.n-1):=qC (by rw[LC.out];simp;omega);clear S3 hd hg3 hb;refine oO 15 ?_ (hS:=fun _=>Z3);try simp only[ap,qF]
  refine oO 16 ?_ (hS:=fun _=>Z3);try simp only[ap,qF]
  refine oO 17 ?_;try simp only[Act.put]
  refine Ai kR ?_ _;go_wp2;go_ret;exact⟨_,rfl,_,S3',B3.out.setCell hBg _,0,.inl ⟨rfl,rfl⟩,.inr ⟨rfl,HYE,X.own.a,X.own.k,by rw[LL.out,LC.out]⟩⟩
open _root_.List renaming mem_map→jy,map_append→kF
open _root_.Nat renaming zero_add→jx
theorem Qc(c:AJ)(w:World)(hc:c.at w)(hn:c.n<=1048576):
 Calls prog 88 #[c] w fun e w'=>∃(a:Option Addr) (k:Nat),e= .returned (qV a c.n k)/\AI w' w (qV a c.n k) ((qx c.n).map c.h)/\Below w w w':=by
 obtain⟨a,n,cap,f⟩:=c;obtain⟨hm,hc⟩:=hc;simp only at hm hc hn ⊢;have L0:=hc.intL;have el:((qx n).map f).length=n:=by simp
 have L:Hid (Bl w a n (((qx n).map f).map (Value.int .i64))):=qC (by unfold Ec at L0;rw[el]at L0;exact L0);clear hc L0;go_enter func88,ntmps88
 go_wp2_with(refine Cl underlying51 Tryz.info2 rfl qQ _ rfl _ _ rfl w (qV none 0 0) 0 [] rfl (World.ownsRow_nil _ _ _ _) a n cap (((qx n).map f).map (Value.int .i64)) rfl sI L (fun u hu=>by obtain⟨y,_,rfl⟩:=jy.1 hu;rfl) qQ qQ nr ?_;intro a3 c3 w3 o3 g3;rw[jx,List.nil_append]at o3;rw[jx])
 go_ret;exact⟨a3,c3,rfl,by unfold AI;rw[el];exact o3,below_grown g3 nr (fun j hj=>by cases hj)⟩
theorem UK(l:List Int):(Lib.compact l).length<=l.length:=by
 unfold Lib.compact Lib.compactUpTo;rw[List.length_map];exact Nat.le_trans (List.length_filter_le _ _) sI
theorem Vb(B c:Nat)(a:Option Addr)(l:List Int)(w:World)(h:AI w B (qV a l.length c) l)(hl:l.length<=100000):
 Calls prog 196 #[qV a l.length c] w fun e w'=>e= .returned (qV a (Lib.compact l).length c)/\AI w' B (qV a (Lib.compact l).length c) (Lib.compact l)/\w.grownBy w' (Value.slice a l.length c).ownBlock:=by
 rcases h.2 with⟨hv,hn⟩|⟨g,cap,cur,hv,hB,hb,h1,h2,h3,h4⟩
 ·have e0:l=[]:=List.eq_nil_of_length_eq_zero hn;subst e0;have hh:Calls prog 196 #[qV a 0 c] w _:=AnyG.slices_Compact_int_empty Tryz.compA a c w;refine hh.mono ?_;rintro e w' ⟨rfl,rfl⟩;have e0:Lib.compact ([]:List Int)=[]:=rfl;rw[e0];exact⟨rfl,h,⟨rfl,rfl,rfl,Nat.le_refl _,fun _ _ _=>rfl⟩⟩
 ·simp only[Value.slice.injEq]at hv;obtain⟨rfl,_,rfl⟩:=hv;have hh:Calls prog 196 #[qV g l.length c] w _:=AnyG.slices_Compact_int Tryz.compA g 0 c l w (holds_of_blockI hb (by simpa using h4)) qQ h1;refine hh.mono ?_;rintro e w' ⟨rfl,q,rfl⟩;have cl:=UK l;have ll:(Lib.compact l++xk (l.length-(Lib.compact l).length) 0).length=l.length:=by simp;omega
  refine⟨rfl,⟨by simp,.inr ⟨g,c,_,rfl,hB,Tp _ hb,by omega,h2,by simp[putCells,h3],?_⟩⟩,Q7 _⟩;have t:=take_putCellsI cur (Lib.compact l++xk (l.length-(Lib.compact l).length) 0) (by rw[ll];omega);rw[ll]at t;have t2:=congrArg (List.take (Lib.compact l).length) t;rw[List.take_take,Nat.min_eq_left cl,kF,List.take_append_of_le_length sI]at t2;rw[Nat.mul_one];exact t2.trans (List.take_of_length_le sI)
theorem Ln(c d:AJ)(w:World)(hc:c.at w)(hd:d.at w)(hn:c.n<=1000)(hm:d.n<=1000):
 Calls prog 167 #[c,d] w fun e w'=>∃(a:Option Addr) (k:Nat) (L:List Int),L=Lib.compact (CM ((qx c.n).map c.h++(qx d.n).map d.h))/\e= .returned (qV a L.length k)/\AI w' w (qV a L.length k) L/\Below w w w':=by
 have HD:=qC hd;have CC:=qC (Qc c w hc qQ);clear hc hd;go_enter func167,ntmps167
 go_wp2_with fail
 refine CC.out.mono ?_;rintro e w1 ⟨a1,k1,rfl,o1,b1⟩;have el:((qx d.n).map d.h).length=d.n:=by simp
 have el1:((qx c.n).map c.h).length=c.n:=by simp
 have L0:=(HD.out.below b1).2.intL;have L:Hid (Bl w1 d.a d.n (((qx d.n).map d.h).map (Value.int .i64))):=qC (by unfold Ec at L0;rw[el]at L0;exact L0);have O1:=qC o1;have B1:=qC b1;clear L0 o1 b1;have OR:Hid (w1.ownsRow w 2 1 (qV a1 c.n k1) c.n (((qx c.n).map c.h).map (Value.int .i64))):=qC (by have:=O1.out;unfold AI at this;rw[el1]at this;exact this);have s1:=B1.out.size;go_wp2_with(refine Cl underlying51 Tryz.info2 rfl qQ _ rfl _ _ rfl w (qV a1 c.n k1) c.n (((qx c.n).map c.h).map (Value.int .i64)) rfl OR d.a d.n d.k (((qx d.n).map d.h).map (Value.int .i64)) rfl sI L (fun u hu=>by obtain⟨y,_,rfl⟩:=jy.1 hu;rfl) qQ qQ s1 ?_;intro a3 c3 w3 o3 g3;rw[<-kF]at o3)
 obtain⟨S,hS⟩:∃S,S=(qx c.n).map c.h++(qx d.n).map d.h:=⟨_,rfl⟩;rw[<-hS]at o3;have LS:Hid (S.length=c.n+d.n):=qC (by rw[hS];simp);have HS:=qC hS;have O3:Hid (AI w3 w (qV a3 (c.n+d.n) c3) S):=qC (by unfold AI;rw[LS.out];exact o3);have B3:Hid (Below w w w3):=qC (B1.out.trans (below_grown g3 B1.out.size (fun j e=>(qq.lt OR j e).1)));have SO:=qC (TE w _ S w3 O3 (by rw[LS.out];omega));clear o3 g3 hS L OR O1 el el1 s1 CC HD B1;refine SO.out.mono ?_;rintro e w4 ⟨rfl,o4,g4⟩;have B4:Hid (Below w w w4):=qC (B3.out.trans (below_grown g4 B3.out.size (fun j e=>(qq.lt O3 j e).1)));have E4:Hid (c.n+d.n=(CM S).length):=qC (by rw[Hg,LS.out]);have O4:Hid (AI w4 w (qV a3 (CM S).length c3) (CM S)):=qC (by rw[<-E4.out];exact o4);have CP:Hid (Calls prog 196 #[qV a3 (c.n+d.n) c3] w4 _):=qC (by rw[E4.out];exact Vb w c3 a3 (CM S) w4 O4 (by rw[<-E4.out];omega));clear o4 g4 SO O3;go_wp2_with fail
 refine CP.out.mono ?_;rintro e w5 ⟨rfl,o5,g5⟩;have O5:=qC o5;have B5:Hid (Below w w w5):=qC (B4.out.trans (below_grown g5 B4.out.size (fun j e=>(qq.lt O4 j e).1)));clear o5 g5;go_wp2;go_ret;exact⟨a3,c3,_,by rw[HS.out],rfl,O5,B5⟩
theorem Nl{F:Func}(hF:F.results=#[.tmp 2,.tmp 3])(tmps:Array Value)(W:World)(x y:Value)(h2:tmps[2]? =some x)(h3:tmps[3]? =some y):
 (results F tmps).run prog W= .ok (.tuple #[x,y]) W:=by
 simp[results,hF,go_sem,h2,h3]
theorem Rz(E:Nat->Addr)(w:World)(B P:Nat)(s:Aj)(g ca q co:Nat)(lt:List Ae)(lo:List Ab)(t:Nat)(m:Value)(h:Fg w B P s g ca q co lt lo t m)(he:LY w E)(hB:B<=w.heap.size)(ht:t<lt.length)(X:Ae)(hX:X=lt[t])(hf:X.made=30∨X.own.n=10):
 Calls prog 143 #[.pointer P] w fun e w'=>∃(v:Value),e= .returned (.tuple #[.string ⟨#[]⟩,v])/\Fg w' B P s g ca q co lt lo t m/\Below B w w'/\Told w' B E v 5:=by
 obtain⟨CW,gl⟩:=h.st.jJ ht;rw[<-hX]at CW;have q6:w.cell? ⟨g,t*7+6,none⟩=some (.int .i64 X.made):=CW.c6;have q5:w.cell? ⟨g,t*7+5,none⟩=some (.slice X.own.a X.own.n X.own.k):=CW.c5;obtain⟨_,_,_,c12,_⟩:=h.wk.jZ;have e4:=(he 4 qQ qQ).1;have e5:=(he 5 qQ qQ).1;have HW:=qC h;clear h he hX CW;by_cases h1:X.made=30
 ·have b1:(X.made==30)=true:=by simpa using h1
  clear hf;rw[h1]at q6;go_enter func143,ntmps143
  go_wp2_with fail
  refine(De 5 314 (.pointer (some (E 4))) w).mono ?_;rintro e w2 ⟨rfl,rfl⟩;go_wp2;have b2:Below w w (w.alloc (.cells #[.int .i64 5,.iface 314 (.pointer (some (E 4)))] 145)):=Bg w _;exact bodyPost_ret (Nl Tryz.results143 _ _ _ _ rfl rfl) rfl ⟨_,rfl,HW.out.below b2,b2.mono hB,.inr ⟨by decide,_,4,rfl,Ag.new w _,by decide,by decide,by decide,hB⟩⟩
 ·have b1:(X.made==30)=false:=by simpa using h1
  have h2:X.own.n=10:=by rcases hf with h|h;exact absurd h h1;exact h
  clear hf;rw[h2]at q5;go_enter func143,ntmps143
  go_wp2_with fail
  refine(De 5 314 (.pointer (some (E 5))) w).mono ?_;rintro e w2 ⟨rfl,rfl⟩;go_wp2;have b2:Below w w (w.alloc (.cells #[.int .i64 5,.iface 314 (.pointer (some (E 5)))] 145)):=Bg w _;exact bodyPost_ret (Nl Tryz.results143 _ _ _ _ rfl rfl) rfl ⟨_,rfl,HW.out.below b2,b2.mono hB,.inr ⟨by decide,_,5,rfl,Ag.new w _,by decide,by decide,by decide,hB⟩⟩
open Go renaming World→qM
theorem AI.new{w:qM}{B k:Nat}{a:Option Addr}{l:List Int}(h:AI w B (qV a l.length k) l)(hm:l.length<=maxLen):(⟨a,l.length,k,AZ l⟩:AJ).new B w:=
 ⟨⟨hm,(AI.lies h).ints⟩,fun h0=>by have:=DT h h0;simpa using this⟩
theorem Fg.setOwn{w0 wr:qM}{B P:Nat}{s:Aj}{g ca q co:Nat}{lt:List Ae}{lo:List Ab}{t:Nat}{m:Value}(h0:Fg w0 B P s g ca q co lt lo t m)(h:Fg wr B P s g ca q co lt lo t m){d:AJ}(ht:t<lt.length){X:Ae}(hX:X=lt[t])(hd:d.new w0 wr)(hdc:d.n<=d.k/\d.k<=maxLen)(hB:B<=w0.heap.size):
 Fg (wr.setCell ⟨g,t*7+5,none⟩ (qV d.a d.n d.k)) B P s g ca q co (lt.set t ⟨X.id,X.b1,X.c1,X.b2,X.c2,d,X.made⟩) lo t m/\B<=g/\∃cur,Ag wr g (.cells cur 53):=by
 obtain⟨k1,⟨cur,hc⟩,hg⟩:=h.st.setOwn ht hX (hd.low hB) hdc;have el:(lt.set t (⟨X.id,X.b1,X.c1,X.b2,X.c2,d,X.made⟩:Ae)).length=lt.length:=by simp
 have hn:X.cb.Nodup:=Dr (L:=lt.map Ae.cb) (t:=t) (by simp[ht,hX]) h.ap.c;exact⟨⟨by rw[el];exact k1,h.ap.setT h0.st ht (x:=⟨X.id,X.b1,X.c1,X.b2,X.c2,d,X.made⟩) hn (fun b hb=> .inl (by rw[<-hX];exact hb)) hd.bs.1 (fun y hy=> .inr (hd.bs.2 y hy).1),by rw[el];exact h.wk.other (Ne.symm h.setP.1) _,h.lp⟩,hg,cur,hc⟩
theorem Uk(w:qM)(B P:Nat)(s:Aj)(g ca q co:Nat)(lt:List Ae)(lo:List Ab)(t:Nat)(m:Value)(h:Fg w B P s g ca q co lt lo t m)(hB:B<=w.heap.size)(ht:t<lt.length)(X:Ae)(hX:X=lt[t])(h1:X.made≠30)(h2:X.own.n≠10)(hi:1<=X.id/\X.id<=1000000)(hm:0<=X.made/\X.made<=1000000)(hn:X.own.n<=1000)(tx:ByteArray)
 (DEC:∀W,Below B w W->Calls prog 168 #[.int .i64 (Aw X)] W fun e w'=>e= .returned (.string tx)/\Below W W w'):
 Calls prog 143 #[.pointer P] w fun e w'=>∃(a:Option Addr) (cc:Nat) (L:List Int),L=Lib.compact (CM ((qx X.own.n).map X.own.h++[Aw X]))/\e= .returned (.tuple #[.string tx,.nilIface])/\Fg w' B P s g ca q co (lt.set t ⟨X.id,X.b1,X.c1,X.b2,X.c2,⟨a,L.length,cc,AZ L⟩,X.made+1⟩) lo t m/\Below B w w':=by
 obtain⟨CW,gl⟩:=h.st.jJ ht;rw[<-hX]at CW;have q6:w.cell? ⟨g,t*7+6,none⟩=some (.int .i64 X.made):=CW.c6;have q5:w.cell? ⟨g,t*7+5,none⟩=some (qV X.own.a X.own.n X.own.k):=CW.c5;obtain⟨_,_,_,c12,_⟩:=h.wk.jZ;have NUM:=qC (Wa w B P s g ca q co lt lo t m h ht X hX hi hm);have HD:=qC DEC;have b1:(X.made==30)=false:=by simpa using h1
 have b2:¬(X.own.n:Int)=10:=by omega
 have b3:((X.own.n:Int)==10)=false:=by simpa using b2
 have HX:=qC hX;clear h CW hX DEC;go_enter func143,ntmps143
 go_wp2_with fail
 refine NUM.out.mono ?_;rintro e w1 ⟨rfl,s1,bb1⟩;have el:(lt.set t (⟨X.id,X.b1,X.c1,X.b2,X.c2,X.own,X.made+1⟩:Ae)).length=lt.length:=by simp
 have S1:Hid (Fg w1 B P s g ca q co (lt.set t ⟨X.id,X.b1,X.c1,X.b2,X.c2,X.own,X.made+1⟩) lo t m):=qC s1;have B1:=qC bb1;obtain⟨C1,gl1⟩:=s1.st.jJ (t:=t) (by rw[el];exact ht);have eg:(lt.set t (⟨X.id,X.b1,X.c1,X.b2,X.c2,X.own,X.made+1⟩:Ae))[t]'(by rw[el];exact ht)=⟨X.id,X.b1,X.c1,X.b2,X.c2,X.own,X.made+1⟩:=by simp
 rw[eg]at C1;have n2:No (.cells (IN s g lt.length ca q lo.length co t m) 175):=⟨⟩;have Z1:Hid ((fun W=>Ag W P n2/\W.cell? ⟨g,t*7+5,none⟩=some (qV X.own.a X.own.n X.own.k)) w1.drew):=qC ⟨by have:=s1.wk;rw[el]at this;exact this,C1.c5⟩;have XA:Hid (X.own.at w1.drew):=qC (by have:=(s1.st.tn _ (List.getElem_mem (show t<_ by rw[el];exact ht)));rw[eg]at this;exact this.2.2.1.below (Below.refl _ w1).drew);have ET:Hid (∀args w,(callFunc 167 args).run prog w= .ok (.enter 167 args) w):=qC (enters_of func167 kR rfl);clear NUM s1 bb1 C1 q6 q5 c12 eg;go_upto_region 6 with fail
 refine Am 16 (fun W=>Ag W P n2/\W.cell? ⟨g,t*7+5,none⟩=some (qV X.own.a X.own.n X.own.k)) kR ?_;have n3:Nv (.pointer P):=⟨⟩;refine tr 0 28 n3 Z1 ?_;refine tr 1 29 n3 Z1 ?_;have n5:Nv (.pointer (some ⟨P,12,none⟩)):=⟨⟩;refine tr 2 30 n5 Z1 ?_;have n4:Nv (.pointer (some ⟨g,t*7,none⟩)):=⟨⟩;refine tr 3 31 n4 Z1 ?_ (hy:=fun W h=>by obtain⟨_,_,_,k12,_⟩:=h.1.jZ;go_simp);refine tr 4 32 n3 Z1 ?_;refine tr 5 33 n3 Z1 ?_;refine tr 6 34 n5 Z1 ?_;refine tr 7 35 n4 Z1 ?_ (hy:=fun W h=>by obtain⟨_,_,_,k12,_⟩:=h.1.jZ;go_simp);refine tr 8 36 n4 Z1 ?_;refine tr 9 37 (.pointer (some ⟨g,t*7+5,none⟩)) Z1 ?_;refine tr 10 38 (qV X.own.a X.own.n X.own.k) Z1 ?_ (hy:=fun W h=>by have y5:=h.2;go_simp);refine tr 11 39 (.int .i64 (Aw X)) Z1 ?_;have n1:Nw (w1.alloc (.cells #[.int .i64 (Aw X)] 2)):=⟨⟩;have BA:Below w1 w1 (n1:qM).drew:=(Bg w1 _).drew;have ZA:Hid ((fun W=>Ag W P n2/\W.cell? ⟨g,t*7+5,none⟩=some (qV X.own.a X.own.n X.own.k)) (n1:qM).drew):=qC ⟨(show Ag w1 P _ from Z1.out.1).below BA,(BA.cell (p:=⟨g,t*7+5,none⟩) gl1).trans (show w1.cell? ⟨g,t*7+5,none⟩=_ from Z1.out.2)⟩;have DC:((n1:qM).drew).cell? ⟨w1,0,none⟩=some (.int .i64 (Aw X)):=by go_simp
 have DA:Hid ((⟨some ⟨w1,0,none⟩,1,1,fun _=>Aw X⟩:AJ).at (n1:qM).drew):=qC ⟨by show 1<=maxLen;unfold maxLen;decide,fun _=>⟨w1,0,rfl,by simp[World.drew],fun j hj=>by
  have e:j=0:=by simp at hj;omega
  subst e;exact DC⟩⟩
 clear DC;have P2:Hid (Calls prog 167 #[X.own,qV (w1) 1 1] (n1:qM).drew fun e w'=>∃v,e= .returned v/\∃(a:Option Addr) (k:Nat) (L:List Int),L=Lib.compact (CM ((qx X.own.n).map X.own.h++[Aw X]))/\v= qV a L.length k/\AI w' (n1:qM).drew.heap.size (qV a L.length k) L/\Below (n1:qM).drew.heap.size (n1:qM).drew w'):=qC ((Ln X.own ⟨some ⟨w1,0,none⟩,1,1,fun _=>Aw X⟩ (n1:qM).drew ((show X.own.at w1 from XA.out).below BA) DA hn sI).mono fun e w' hh=>by
  obtain⟨a,k,L,h1,rfl,h3,h4⟩:=hh;exact⟨_,rfl,a,k,L,h1,rfl,h3,h4⟩)
 refine oO 12 ?_ (hS:=fun _=>ZA);try simp only[ap,qF]
 have SA:=qC (S1.out.below BA);have A1:=qC (B1.out.trans (BA.mono (qj hB B1.out.size)));have sz:B<=((n1:qM).drew).heap.size:=qj hB A1.out.size;refine Ac (i:=13) kR rfl ?_;intro K hK;refine Ay qK 167 _ _ _ qK ET _ _ qK qK (some 41) qK _ P2 ?_;rintro v w3 ⟨a,k,L,hL,rfl,o3,b3⟩;have S3:=qC (SA.out.below b3);have wk3:=S3.out.wk;rw[el]at wk3;have gl3:g<((n1:qM).drew).heap.size:=Nat.lt_of_lt_of_le gl1 BA.size;have c5:w3.cell? ⟨g,t*7+5,none⟩=some (qV X.own.a X.own.n X.own.k):=(b3.cell (p:=⟨g,t*7+5,none⟩) gl3).trans ZA.out.2;have Z3:Hid ((fun W=>Ag W P n2/\W.cell? ⟨g,t*7+5,none⟩=some (qV X.own.a X.own.n X.own.k)) w3):=qC ⟨wk3,c5⟩;have cap:=Dj o3;have dn:=o3.new (qj cap.1 cap.2);obtain⟨S4,hBg,cur,hcu⟩:=SA.out.setOwn S3 (d:=⟨a,L.length,k,AZ L⟩) (by rw[el];exact ht) (X:=⟨X.id,X.b1,X.c1,X.b2,X.c2,X.own,X.made+1⟩) sI dn cap sz;rw[List.set_set]at S4;have S4':=qC S4;have gf:=hcu.jC;have B3:=qC (A1.out.trans (b3.mono sz));have HL:=qC hL;have KK:=hK;refine KK _ _ (fun _=>Z3) ?_;clear hK KK K S4 dn o3 b3 wk3 hL;simp only[ap,qF];refine oO 14 ?_ (hS:=fun _=>Z3);try simp only[ap,qF]
 refine oO 15 ?_ (hS:=fun _=>Z3);try simp only[ap,qF]
 refine oO 16 ?_;try simp only[Act.put]
 refine Ai kR ?_ _;have B4:=qC (B3.out.setCell (p:=⟨g,t*7+5,none⟩) hBg (qV a L.length k));go_wp2_with fail
 refine(HD _ B4).mono ?_;rintro e w5 ⟨rfl,b5⟩;have S5:=qC (S4'.out.below b5);have B5:=qC (B4.out.trans (b5.mono (qj hB B4.out.size)));clear b5;go_wp2;go_ret2;exact⟨a,k,L,HL,rfl,S5,B5⟩
open Go.Region renaming wanted→jW
variable {lo:List Ab}{w:qM}{B ca co:Nat}{ta oa:Option Addr}{lt:List Ae}
theorem Cd{P:Program}{ops:Array Oper}{Q:Exit->Act->qM->Prop}{md:Region.Mode}{S:qM->Prop}{m:Nat}{i j:Nat}{o o':Oper}{fuel:Nat}{listed:Array Bool}{a:Act}{w:qM}(hr:Region.ready md ops listed=[i,j])(ho:ops[i]? =some o)(ho':ops[j]? =some o')
 (h:∀K':Act->qM->Prop,Shut (∀a w,((listed.setIfInBounds i true).getD m false=false->S w)->Cs P md ops Q S m fuel (listed.setIfInBounds i true) a w->K' a w)->if jW o (yielded ops a.tmps)=true then Oper.wp P o a w K' Q else K' (a.put o.dst undef) w)
 (h':∀K':Act->qM->Prop,Shut (∀a w,((listed.setIfInBounds j true).getD m false=false->S w)->Cs P md ops Q S m fuel (listed.setIfInBounds j true) a w->K' a w)->if jW o' (yielded ops a.tmps)=true then Oper.wp P o' a w K' Q else K' (a.put o'.dst undef) w):
 Cs P md ops Q S m (fuel+1) listed a w:=
 ⟨fun h0=>(by rw[hr]at h0;cases h0),fun k hk=>by
   rw[hr]at hk;rcases List.mem_cons.1 hk with rfl|hk
   ·exact wpOp_step ho (fun K' hK=>h K' (fun a w hS hW=>hK a w ⟨hS,hW⟩))
   ·obtain rfl:=List.mem_singleton.1 hk;exact wpOp_step ho' (fun K' hK=>h' K' (fun a w hS hW=>hK a w ⟨hS,hW⟩))⟩
theorem Ez{f:Nat}{a:Array Value}{W:qM}{v:Value}{R:qM->Prop}(h:Calls prog f a W fun e w'=>e= rT v/\R w'):Calls prog f a W fun e w'=>∃x,e= rT x/\(x=v/\R w'):=h.mono fun _ _ ⟨e1,h1⟩=>⟨_,e1,rfl,h1⟩
def H9(X:Ae)(b:Int)(c:As):Bool:=CX b c.n c.f c.g X.own.n X.own.h X.b1 X.c1.n X.c1.f X.c1.g
def Ap(X:Ae)(b:Int)(c:As):Bool:=H9 X b c&&CX X.b1 X.c1.n X.c1.f X.c1.g X.own.n X.own.h b c.n c.f c.g
theorem dT(X:Ae)(b:Int)(c:As)(W:qM)(hX:X.at W)(xs:X.small)(r1:FF X.c1)(hc:c.at W)(hn:c.n<=1048576)(rc:FF c):
 Calls prog 99 #[.agg X,.agg #[.int .i64 b,c]] W fun e w'=>e= rT (.bool (H9 X b c))/\Below W W w':=
 OY X.id X.made X.b1 X.c1.a X.c1.n X.c1.k X.c1.f X.c1.g X.b2 X.c2.a X.c2.n X.c2.k X.c2.f X.c2.g X.own.a X.own.n X.own.k X.own.h b c.a c.n c.k c.f c.g W hX.1.1 hX.2.1.1 hX.2.2.1 hX.1.2 hX.2.1.2 hX.2.2.2 hc.1 hc.2 xs.1 hn r1 rc
theorem Hd(X:Ae)(b:Int)(c:As)(W:qM)(hX:X.at W)(xs:X.small)(r1:FF X.c1)(hc:c.at W)(hn:c.n<=1048576)(rc:FF c):
 Calls prog 95 #[.agg X,.agg #[.int .i64 b,c]] W fun e w'=>e= rT (.bool (Ap X b c))/\Below W W w':=
 Qi X.id X.made X.b1 X.c1.a X.c1.n X.c1.k X.c1.f X.c1.g X.b2 X.c2.a X.c2.n X.c2.k X.c2.f X.c2.g X.own.a X.own.n X.own.k X.own.h b c.a c.n c.k c.f c.g W hX.1.1 hX.2.1.1 hX.2.2.1 hX.1.2 hX.2.1.2 hX.2.2.2 hc.1 hc.2 xs.1 hn r1 rc
def El(b:Int)(c:As)(o:AJ)(b':Int)(c':As):Bool:=CX b c.n c.f c.g o.n o.h b' c'.n c'.f c'.g
theorem SG(b:Int)(c:As)(o:AJ)(b':Int)(c':As)(W:qM)(hc:c.at W)(ho:o.at W)(hc':c'.at W)(n1:c.n<=1048576)(n2:c'.n<=1048576)(r1:FF c)(r2:FF c'):
 Calls prog 93 #[.agg #[.int .i64 b,c],o,.agg #[.int .i64 b',c']] W fun e w'=>e= rT (.bool (El b c o b' c'))/\Below W W w':=
 GQ _ _ _ _ c.f c.g _ _ _ o.h _ _ _ _ c'.f c'.g W n1 n2 ho.1 hc.2 hc'.2 ho.2 r1 r2
theorem df(o:AJ)(x:Int)(W:qM)(ho:o.at W):
 Calls prog 94 #[o,.int .i64 x] W fun e w'=>e= rT (.bool (hasB o.n o.h x))/\w'=W:=J7 _ _ _ o.h x W ho.1 ho.2
def Hq(lo:List Ab)(x:Int):Option Nat:=Bq (fun i=>(Aa lo i).id) lo.length x
def Us(lt:List Ae)(x:Int):Option Nat:=Bq (fun i=>(Be lt i).id) lt.length x
theorem Ht{x:Int}{u:Nat}(h:Hq lo x=some u):∃hu:u<lo.length,(lo[u]'hu).id=x:=by
 obtain⟨h1,h2⟩:=AH h;refine⟨h1,?_⟩;have e1:Aa lo u=lo[u]:=by simp[Aa,h1]
 rw[<-e1];exact h2
theorem Pb(h:Bz w B (qV ta lt.length ca) (qV oa lo.length co) lt lo)(h1:lt.length<=1048576)(h2:lo.length<=1048576)(h3:∀x∈lo,x.data.size<=maxLen)(x:Int):
 Calls prog 23 #[.agg #[qV ta lt.length ca,qV oa lo.length co],.int .i64 x] w fun e w'=>e= rT (.int .i64 (GX (Hq lo x)))/\Below w w w':=Kw (Df ta ca oa co lt lo) x w (h.at h1 h2 h3)
theorem dP(ta:Option Addr)(ca:Nat)(oa:Option Addr)(co:Nat)(lt:List Ae)(lo:List Ab):(Df ta ca oa co lt lo).oL lo.length=lo:=by
 refine List.ext_getElem (by simp[Av.oL]) fun i h1 h2=>?_;simp[Av.oL,Df,Aa,h2]
theorem fF(h:Bz w B (qV ta lt.length ca) (qV oa lo.length co) lt lo)(h1:lt.length<=1048576)(h2:lo.length<=1048000)(h3:∀x∈lo,x.data.size<=maxLen)(o:Ab):
 Calls prog 96 #[.agg #[qV ta lt.length ca,qV oa lo.length co],.agg o] w fun e w'=>∃(ob:Option Addr) (cb:Nat),e= rT (.agg #[qV ta lt.length ca,qV ob (Bs o lo).length cb])/\AW w' w (qV ob (Bs o lo).length cb) (Bs o lo)/\Below w w w':=by
 have:=YM (Df ta ca oa co lt lo) o w (h.at h1 qQ h3) h2;have e:(Df ta ca oa co lt lo).oL (Df ta ca oa co lt lo).on=lo:=dP ta ca oa co lt lo;rw[e]at this;exact this
def Gg(X:Ae)(s:Aj)(lo:List Ab):Bool:=
 match Hq lo s.id with
 |none=>false
 |some u=>decide ((Aa lo u).kind=3)&&Ap X (Aa lo u).b1 (Aa lo u).c1&&El X.b1 X.c1 X.own s.b1 s.c1&&El s.b1 s.c1 X.own X.b2 X.c2&&(!decide (0<s.cat)||hasB X.own.n X.own.h s.cat)
def Fb(kind:Int):Nat:=if kind=1 then 250 else if kind=2 then 252 else if kind=3 then 254 else 256
theorem Jw(w:World)(B P:Nat)(s:Aj)(g ca q co:Nat)(lt:List Ae)(lo:List Ab)(t c C n:Nat)(ids:Nat->Int)(nb:Nat->Nat)(kv:Nat->Value)(K:Nat->List Int)(h:Fg w B P s g ca q co lt lo t (.map (some c)))(hn:Ei w C c n ids q 0 nb kv K)(hl:n<=lo.length)(hd:∀x∈lo,x.data.size<=maxLen)(id:Int)(hi:(Lit.int .i64 id).wf=true):
 Calls prog 182 #[.pointer P,.int .i64 id] w fun e w'=>((Bq ids n id=none/\e= .returned .nilIface)∨∃i,Bq ids n id=some i/\e= .returned (.iface (Fb (Aa lo i).kind) (.agg #[.pointer (some ⟨q,i*10,none⟩)])))/\Below w w w':=by
 obtain⟨_,_,_,_,c13⟩:=h.wk.jZ;have LK:=hn.map.look hi;cases hf:Bq ids n id with
 |none=>
  rw[hf]at LK;simp only[Option.map_none]at LK;go_enter func182,ntmps182
  go_wp2;go_ret;exact⟨.inl ⟨by first|trivial|rfl,rfl⟩,Below.refl _ _⟩
 |some i=>
  rw[hf]at LK;simp only[Option.map_some]at LK;obtain⟨hin,_⟩:=AH hf;obtain⟨z0,z1⟩:=(hn.blk i hin).two;rw[jx]at z0;obtain⟨CW,gl⟩:=h.st.jF (t:=i) qQ hd;have eo:lo[i]'(by omega)=Aa lo i:=by simp[Aa,show i<lo.length by omega]
  rw[eo]at CW;have nl:nb i<w.heap.size:=(hn.blk i hin).lt;have k1:w.cell? ⟨q,i*10+1,none⟩=some (.int .i64 (Aa lo i).kind):=CW.c1;have n1:No (.cells #[.pointer (some ⟨q,i*10,none⟩)] 248):=⟨⟩;have e0:(w.alloc n1).cell? ⟨nb i,0,none⟩=some (.pointer (some ⟨q,i*10,none⟩)):=(((hn.blk i hin).alloc _).two.1).trans (by rw[jx]);have e1:(w.alloc n1).cell? ⟨q,i*10+1,none⟩=some (.int .i64 (Aa lo i).kind):=(CW.below gl (Bg w _)).c1;have BL:=qC ((Below.refl w w).alloc nr n1);clear CW eo;obtain⟨kd,hk⟩:∃kd,(Aa lo i).kind=kd:=⟨_,rfl⟩;rw[hk]at k1 e1;have HK:=qC hk;clear hk;by_cases h1:kd=1
  ·subst h1;go_enter func182,ntmps182
   go_wp2;go_ret;exact⟨.inr ⟨i,rfl,by rw[HK.out];rfl⟩,BL⟩
  ·by_cases h2:kd=2
   ·subst h2;go_enter func182,ntmps182
    go_wp2;go_ret;exact⟨.inr ⟨i,rfl,by rw[HK.out];rfl⟩,BL⟩
   ·by_cases h3:kd=3
    ·subst h3;go_enter func182,ntmps182
     go_wp2;go_ret;exact⟨.inr ⟨i,rfl,by rw[HK.out];rfl⟩,BL⟩
    ·have ty:Fb kd=256:=(by unfold Fb;rw[if_neg h1,if_neg h2,if_neg h3]);go_enter func182,ntmps182
     go_wp2;go_ret;exact⟨.inr ⟨i,rfl,by rw[HK.out,ty];rfl⟩,BL⟩
theorem Xx(E:Nat->Addr)(w:qM)(B P:Nat)(s:Aj)(g ca q co:Nat)(lt:List Ae)(lo:List Ab)(t:Nat)(m:Value)(h:Fg w B P s g ca q co lt lo t m)(he:LY w E)(h14:14<=B)(hB:B<=w.heap.size)(ht:t<lt.length)(X:Ae)(hX:X=lt[t])(u:Nat)(hu:u<lo.length)(O:Ab)(hO:O=lo[u])(hd:∀x∈lo,x.data.size<=maxLen)(fl:Bool)
 (FL:∀W,qN w w W->Calls prog 179 #[.agg #[X.b1,X.c1],X.own,.agg #[O.b2,O.c2]] W fun e w'=>e= .returned (.bool fl)/\qN W W w')(hn:X.own.n<=1000)(hm:O.own.n<=1000)(L:List Int)(hL:L=Lib.compact (CM ((qx X.own.n).map X.own.h++(qx O.own.n).map O.own.h))):
 Calls prog 188 #[pT P,.agg #[pT (some ⟨q,u*10,none⟩)]] w fun e w'=>∃(v:Value) (x:Ae) (c:Int),e= .returned v/\Fg w' B P s g ca q co (lt.set t x) lo t m/\qN B w w'/\Told w' B E v c/\((c=4/\fl=false/\x=X)∨(c=5/\fl=true/\10<L.length/\x=X)∨(c=0/\fl=true/\¬10<L.length/\∃(a:Option Addr) (cc:Nat),x=⟨X.id,X.b1,X.c1,X.b2,X.c2,⟨a,L.length,cc,AZ L⟩,X.made⟩)):=by
 obtain⟨CW,gl⟩:=h.st.jJ ht;rw[<-hX]at CW;obtain⟨CO,ql⟩:=h.st.jF hu hd;rw[<-hO]at CO;have XN:=qC (show X.new B w by rw[hX];exact h.st.tn _ (qk ht));have ON:=qC (show O.new B w by rw[hO];exact h.st.on _ (qk hu));have HW:=qC h;have HE:=qC he;have HX:=qC hX;have HFL:=qC FL;have HL:=qC hL;have n1:Nw (w.alloc (.cells #[pT (some ⟨q,u*10,none⟩)] 256)):=⟨⟩;have b0:qN w w n1:=Bg w _;have B0:=qC b0;have n5:Nv (pT (some ⟨q,u*10,none⟩)):=⟨⟩;have c0:(n1:qM).cell? ⟨w,0,none⟩=some (pT (some ⟨q,u*10,none⟩)):=by go_simp
 have BX:Hid (∀W,qN (n1:qM).heap.size n1 W->Ag W P (.cells (IN s g lt.length ca q lo.length co t m) 175)/\FA W g (t*7) X/\Di W q (u*10) O/\W.cell? ⟨w,0,none⟩=some (pT (some ⟨q,u*10,none⟩))):=qC (fun W hW=>⟨(HW.out.wk.below B0).below hW,(CW.below gl B0).below (qv gl B0.out.size) hW,(CO.below ql B0).below (qv ql B0.out.size) hW,(hW.cell (p:=⟨w,0,none⟩) sI).trans c0⟩);have EF:Hid (∀args w,(callFunc 179 args).run prog w= .ok (.enter 179 args) w):=qC (enters_of func179 kR rfl);have ET:Hid (∀args w,(callFunc 167 args).run prog w= .ok (.enter 167 args) w):=qC (enters_of func167 kR rfl);have D0:=qC (Below.refl (n1:qM).heap.size n1).drew;have n7:Na #[X.b1,X.c1]:=⟨⟩;have n8:Na #[O.b2,O.c2]:=⟨⟩;have P1:Hid (Calls prog 179 #[.agg n7,X.own,.agg n8] (n1:qM).drew fun e w'=>∃v,e= .returned v/\(v= .bool fl/\qN (n1:qM).drew.heap.size (n1:qM).drew w')):=qC ((HFL _ (Af B0 D0)).mono fun _ _ h=>⟨_,h.1,rfl,h.2⟩);clear h he hX FL CW CO hO c0 b0 hL hd;go_enter func188,ntmps188
 go_upto_region 1 with fail
 refine Am 22 (fun W=>qN (n1:qM).heap.size n1 W) kR ?_;have n3:Nv (pT P):=⟨⟩;refine tr 0 6 n3 D0 ?_;refine tr 1 7 n3 D0 ?_;have n6:Nv (pT (some ⟨P,12,none⟩)):=⟨⟩;refine tr 2 8 n6 D0 ?_;have n2:Nv (pT (some ⟨g,t*7,none⟩)):=⟨⟩;refine tr 3 9 n2 D0 ?_ (hy:=fun W h=>by obtain⟨⟨k0,k1,k2,k3,k4,k5,k6,k7,k8,k9⟩,k10,k11,k12,k13⟩:=(BX W h).1.jZ;go_simp);refine tr 4 10 n2 D0 ?_;refine tr 5 11 (pT (some ⟨g,t*7+1,none⟩)) D0 ?_;refine tr 6 12 (.agg n7) D0 ?_ (hy:=fun W h=>by have C:=(BX W h).2.1;have y1:W.cell? ⟨g,t*7+1,none⟩=some (.int .i64 X.b1):=C.c1;have y2:W.cell? ⟨g,t*7+1+1,none⟩=some (qV X.c1.a X.c1.n X.c1.k):=C.c2;go_simp);refine tr 7 13 n3 D0 ?_;refine tr 8 14 n3 D0 ?_;refine tr 9 15 n6 D0 ?_;refine tr 10 16 n2 D0 ?_ (hy:=fun W h=>by obtain⟨⟨k0,k1,k2,k3,k4,k5,k6,k7,k8,k9⟩,k10,k11,k12,k13⟩:=(BX W h).1.jZ;go_simp);refine tr 11 17 n2 D0 ?_;have n9:Nv (pT (some ⟨g,t*7+5,none⟩)):=⟨⟩;refine tr 12 18 n9 D0 ?_;refine tr 13 19 (qV X.own.a X.own.n X.own.k) D0 ?_ (hy:=fun W h=>by have C:=(BX W h).2.1;have y5:W.cell? ⟨g,t*7+5,none⟩=some (qV X.own.a X.own.n X.own.k):=C.c5;go_simp);have n4:Nv (pT (w)):=⟨⟩;refine tr 14 20 n4 D0 ?_;refine tr 15 21 n4 D0 ?_;refine tr 16 22 n5 D0 ?_ (hy:=fun W h=>by have y:=(BX W h).2.2.2;go_simp);refine tr 17 23 n5 D0 ?_;refine tr 18 24 (pT (some ⟨q,u*10+8,none⟩)) D0 ?_;refine tr 19 25 (.agg n8) D0 ?_ (hy:=fun W h=>by have C:=(BX W h).2.2.1;have y1:W.cell? ⟨q,u*10+8,none⟩=some (.int .i64 O.b2):=C.c8;have y2:W.cell? ⟨q,u*10+8+1,none⟩=some (qV O.c2.a O.c2.n O.c2.k):=C.c9;go_simp);refine Ac (i:=20) kR rfl ?_;intro K hK;refine Dq qK 179 _ _ _ _ qK EF _ _ _ qK qK qK (some 26) qK _ P1 ?_;rintro v w1 ⟨rfl,b1⟩;have V1:=qC (Af D0 b1);refine hK _ _ (fun _=>V1) ?_;clear hK K b1;simp only[ap,qF];refine tr 21 27 (.bool (!fl)) V1 ?_;refine Ai kR ?_ _;have A1:=qC (Af B0 V1);have H1:=qC (HW.out.below A1);cases fl with
 |false=>
  have e9:=(HE.out.below h14 (A1.out.mono hB) 9 qQ qQ).1;go_wp2_with fail
  refine(Bv 314 (pT (some (E 9))) w1).mono ?_;rintro e w2 ⟨rfl,rfl⟩;go_wp2;go_ret;have b2:qN w1 w1 (w1.alloc (.cells #[.int .i64 4,.iface 314 (pT (some (E 9)))] 145)):=Bg w1 _;refine⟨_,rfl,X,by rw[HX.out,FE];exact H1.out.below b2,(Af A1 b2).mono hB,4,.inr ⟨by decide,_,9,rfl,Ag.new w1 _,by decide,by decide,by decide,qj hB A1.out.size⟩,⟨rfl,rfl⟩⟩
 |true=>
  go_upto_region 3 with fail
  have D2:=qC V1.out.drew;have A2:=qC (Af B0 D2);have H2:=qC (HW.out.below A2);have P2:Hid (Calls prog 167 #[X.own,O.own] w1.drew fun e w'=>∃v,e= .returned v/\∃(a:Option Addr) (k:Nat),v= qV a L.length k/\AI w' w1.drew.heap.size (qV a L.length k) L/\qN w1.drew.heap.size w1.drew w'):=qC ((Ln X.own O.own w1.drew (XN.out.2.2.1.below A2) (ON.out.2.2.1.1.below A2) hn hm).mono fun e w' hh=>by
   obtain⟨a,k,L',h1,rfl,h3,h4⟩:=hh;rw[<-HL.out]at h1;subst h1;exact⟨_,rfl,a,k,rfl,h3,h4⟩)
  refine Am 15 (fun W=>qN (n1:qM).heap.size n1 W) kR ?_;refine tr 0 30 n3 D2 ?_;refine tr 1 31 n3 D2 ?_;refine tr 2 32 n6 D2 ?_;refine tr 3 33 n2 D2 ?_ (hy:=fun W h=>by obtain⟨⟨k0,k1,k2,k3,k4,k5,k6,k7,k8,k9⟩,k10,k11,k12,k13⟩:=(BX W h).1.jZ;go_simp);refine tr 4 34 n2 D2 ?_;refine tr 5 35 n9 D2 ?_;refine tr 6 36 (qV X.own.a X.own.n X.own.k) D2 ?_ (hy:=fun W h=>by have C:=(BX W h).2.1;have y5:W.cell? ⟨g,t*7+5,none⟩=some (qV X.own.a X.own.n X.own.k):=C.c5;go_simp);refine tr 7 37 n4 D2 ?_;refine tr 8 38 n4 D2 ?_;refine tr 9 39 n5 D2 ?_ (hy:=fun W h=>by have y:=(BX W h).2.2.2;go_simp);refine tr 10 40 n5 D2 ?_;refine tr 11 41 (pT (some ⟨q,u*10+7,none⟩)) D2 ?_;refine tr 12 42 (qV O.own.a O.own.n O.own.k) D2 ?_ (hy:=fun W h=>by have C:=(BX W h).2.2.1;have y5:W.cell? ⟨q,u*10+7,none⟩=some (qV O.own.a O.own.n O.own.k):=C.c7;go_simp);refine Ac (i:=13) kR rfl ?_;intro K hK;refine Ay qK 167 _ _ _ qK ET _ _ qK qK (some 43) qK _ P2 ?_;rintro v w3 ⟨a,k,rfl,o3,b3⟩;have V3:=qC (Af D2 b3);refine hK _ _ (fun _=>V3) ?_;clear hK K;simp only[ap,qF];refine tr 14 5 (qV a L.length k) V3 ?_;refine Ai kR ?_ _;have A3:=qC (Af B0 V3);have H3:=qC (HW.out.below A3);have sz:B<=w1.drew.heap.size:=qj hB A2.out.size;by_cases hl:10<L.length
  ·have i1:(10:Int)<(L.length:Int):=qQ;have e5:=(HE.out.below h14 (A3.out.mono hB) 5 qQ qQ).1;have LH:=qC hl;clear o3 b3 hl;go_wp2_with fail
   refine(De 5 314 (pT (some (E 5))) w3).mono ?_;rintro e w2 ⟨rfl,rfl⟩;go_wp2;go_ret;have b2:qN w3 w3 (w3.alloc (.cells #[.int .i64 5,.iface 314 (pT (some (E 5)))] 145)):=Bg w3 _;refine⟨_,rfl,X,by rw[HX.out,FE];exact H3.out.below b2,(Af A3 b2).mono hB,5,.inr ⟨by decide,_,5,rfl,Ag.new w3 _,by decide,by decide,by decide,qj hB A3.out.size⟩,.inl ⟨rfl,LH,rfl⟩⟩
  ·have i1:¬(10:Int)<(L.length:Int):=qQ;have LH:=qC hl;have cap:=Dj o3;have dn:=o3.new (qj cap.1 cap.2);obtain⟨S4,hBg,cur,hcu⟩:=H2.out.setOwn H3 (d:=⟨a,L.length,k,AZ L⟩) ht HX dn cap sz;have S4':=qC S4;have gf:=hcu.jC;obtain⟨⟨k0,k1,k2,k3,k4,k5,k6,k7,k8,k9⟩,k10,k11,k12,k13⟩:=H3.out.wk.jZ;have c5:w3.cell? ⟨g,t*7+5,none⟩=some (qV X.own.a X.own.n X.own.k):=(BX _ V3).2.1.c5;clear o3 b3 hl S4 dn cap;go_wp2;go_ret;exact⟨_,rfl,_,S4',(A3.out.mono hB).setCell hBg _,0,.inl ⟨rfl,rfl⟩,.inr ⟨rfl,Nat.not_lt.1 LH,a,k,rfl⟩⟩
end Go.Proofs.YtdaccbddcjlkpaaGreatDoor
